import unittest
from itertools import combinations

from tests.cases import GRAPHS, NOT_CONNECTED
from tests.independent import distances_by_trial
from tests.support import ask, build, create, is_connected, last_answer, set_edge


class IsConnected(unittest.TestCase):
    def test_every_size_from_the_first_edge_to_the_last(self):
        for n in range(1, 7):
            for start in range(n):
                with self.subTest(n=n, start=start):
                    calls = [create(n), is_connected()]
                    for step in range(1, n):
                        calls += [set_edge(start, (start + step) % n, 9), is_connected()]
                    self.assertEqual(ask(*calls)[1::2], [[0]] * (n - 1) + [[1]])

    def test_graphs(self):
        for graphs, answer in ((GRAPHS, [1]), (NOT_CONNECTED, [0])):
            for name, (n, edges) in graphs.items():
                with self.subTest(name):
                    self.assertEqual(last_answer(*build(n, edges), is_connected()), answer)

    def test_all_graphs_of_four_points(self):
        pairs = list(combinations(range(4), 2))
        for count in range(7):
            for chosen in combinations(pairs, count):
                edges = {pair: 1 + sum(pair) for pair in chosen}
                with self.subTest(edges=edges):
                    cut = None in [d for row in distances_by_trial(4, edges) for d in row]
                    answer = last_answer(*build(4, edges), is_connected())
                    self.assertEqual(answer, [0] if cut else [1])

    def test_every_length(self):
        for length in range(10):
            with self.subTest(length=length):
                given = ask(create(2), set_edge(1, 0, length), is_connected())
                self.assertEqual(given[-1], [1 if length else 0])

    def test_follows_the_edges(self):
        given = ask(*build(3, {(0, 1): 1, (1, 2): 1, (0, 2): 1}), is_connected(), set_edge(0, 1, 0),
                    is_connected(), set_edge(2, 0, 0), is_connected(), set_edge(0, 1, 4), is_connected(),
                    create(2), is_connected(), create(1), is_connected())
        self.assertEqual(given[4:], [[1], [1], [1], [1], [0], [0], [1], [0], [0], [0], [1]])

    def test_does_not_ask_for_the_distributions(self):
        calls = build(3, {(0, 1): 1}, [[1, 1, 0]] * 4)
        self.assertEqual(last_answer(*calls, is_connected()), [0])


if __name__ == "__main__":
    unittest.main()
