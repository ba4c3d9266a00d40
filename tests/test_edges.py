import unittest

from tests.independent import distances_by_trial
from tests.support import (HIGHEST, LOWEST, ask, build, create, distance, last_answer, set_edge,
                           state_calls)

NO_POINTS = [LOWEST, LOWEST + 1, -1, 3, 4, HIGHEST - 1, HIGHEST]
NO_LENGTHS = [LOWEST, LOWEST + 1, -1, 10, 11, HIGHEST - 1, HIGHEST]

# With 3 points.
EDGES = {(0, 1): 4, (1, 2): 5}


def answer_and_state(call):
    calls = build(3, EDGES, [[1, 2, 3], [3, 1, 0]])
    return ask(*calls, call, *state_calls(3))[len(calls):]


def state():
    calls = build(3, EDGES, [[1, 2, 3], [3, 1, 0]])
    return ask(*calls, *state_calls(3))[len(calls):]


class SetEdge(unittest.TestCase):
    def test_old_length(self):
        calls = [create(2)] + [set_edge(0, 1, length) for length in (9, 1, 5, 5, 0, 0, 2)]
        self.assertEqual(ask(*calls), [[0], [0], [9], [1], [5], [5], [0], [0]])

    def test_every_length(self):
        for length in range(10):
            with self.subTest(length=length):
                given = ask(create(2), set_edge(0, 1, length), distance(0, 1), set_edge(0, 1, 0))
                way = [length] if length else [-33]
                self.assertEqual(given, [[0], [0], way, [length]])

    def test_both_directions(self):
        given = ask(create(3), set_edge(2, 0, 7), set_edge(0, 2, 3), distance(2, 0), distance(0, 2),
                    set_edge(2, 0, 1), distance(0, 2), distance(2, 0))
        self.assertEqual(given, [[0], [0], [7], [3], [3], [3], [1], [1]])

    def test_0_removes(self):
        for i, j in ((0, 1), (1, 0)):
            with self.subTest(i=i, j=j):
                given = ask(create(2), set_edge(0, 1, 6), set_edge(i, j, 0), distance(0, 1),
                            distance(1, 0), set_edge(0, 1, 0))
                self.assertEqual(given, [[0], [0], [6], [-33], [-33], [0]])

    def test_every_edge_is_one_of_its_own(self):
        edges = {(i, j): 1 + (2 * i + 3 * j) % 9 for i in range(6) for j in range(i + 1, 6)}
        given = ask(*build(6, edges), *[set_edge(j, i, 0) for i, j in sorted(edges)])
        self.assertEqual(given[16:], [[edges[pair]] for pair in sorted(edges)])

    def test_no_such_point(self):
        for point in NO_POINTS:
            for call in (set_edge(point, 0, 1), set_edge(0, point, 1), set_edge(point, point, 1)):
                with self.subTest(call=call):
                    self.assertEqual(answer_and_state(call), [[-2]] + state())

    def test_same_point(self):
        for point in range(3):
            for length in (0, 1, 9, 10, LOWEST, HIGHEST):
                with self.subTest(point=point, length=length):
                    call = set_edge(point, point, length)
                    self.assertEqual(answer_and_state(call), [[-22]] + state())

    def test_length_out_of_range(self):
        for length in NO_LENGTHS:
            for i, j in ((0, 1), (1, 0), (0, 2)):
                with self.subTest(i=i, j=j, length=length):
                    call = set_edge(i, j, length)
                    self.assertEqual(answer_and_state(call), [[-22]] + state())

    def test_point_ahead_of_the_rest(self):
        for point in NO_POINTS:
            for length in NO_LENGTHS:
                for i, j in ((point, 0), (0, point), (point, point)):
                    with self.subTest(i=i, j=j, length=length):
                        self.assertEqual(last_answer(create(3), set_edge(i, j, length)), [-2])


class Distance(unittest.TestCase):
    def test_way_shorter_than_the_edge(self):
        calls = build(4, {(0, 3): 9, (0, 1): 2, (1, 2): 3, (2, 3): 2})
        self.assertEqual(last_answer(*calls, distance(0, 3)), [7])
        self.assertEqual(last_answer(*calls, distance(3, 0)), [7])

    def test_edge_as_short_as_or_shorter_than_the_way(self):
        for length in range(1, 6):
            with self.subTest(length=length):
                calls = build(3, {(0, 2): length, (0, 1): 2, (1, 2): 3})
                self.assertEqual(last_answer(*calls, distance(0, 2)), [length])

    def test_longest(self):
        edges = {(i, i + 1): 9 for i in range(5)}
        self.assertEqual(last_answer(*build(6, edges), distance(0, 5)), [45])

    def test_longer_edge_makes_another_way_shorter(self):
        calls = build(3, {(0, 1): 1, (1, 2): 1, (0, 2): 5})
        given = ask(*calls, distance(0, 2), set_edge(0, 1, 9), distance(0, 2), distance(0, 1))
        self.assertEqual(given[4:], [[2], [1], [5], [6]])

    def test_same_point(self):
        for n in range(1, 7):
            with self.subTest(n=n):
                given = ask(create(n), *[distance(i, i) for i in range(n)])
                self.assertEqual(given, [[0]] * (n + 1))

    def test_no_path(self):
        calls = build(4, {(0, 1): 1, (2, 3): 1})
        pairs = [(0, 2), (2, 0), (1, 3), (3, 1), (0, 3), (1, 2)]
        given = ask(*calls, *[distance(i, j) for i, j in pairs], distance(0, 1), distance(3, 2))
        self.assertEqual(given[3:], [[-33]] * 6 + [[1], [1]])

    def test_no_such_point(self):
        for edges in ({}, EDGES):
            for point in NO_POINTS:
                for i, j in ((point, 0), (0, point), (point, point), (point, 2)):
                    with self.subTest(edges=edges, i=i, j=j):
                        self.assertEqual(last_answer(*build(3, edges), distance(i, j)), [-2])

    def test_leaves_the_instance(self):
        for call in (distance(0, 2), distance(3, 0), distance(-1, -1)):
            with self.subTest(call=call):
                self.assertEqual(answer_and_state(call)[1:], state())

    def test_against_all_ways(self):
        for case in range(200):
            n = 2 + case % 4
            pairs = [(i, j) for i in range(n) for j in range(i + 1, n)]
            lengths = [(7 * case + 5 * place * place) % 14 for place in range(len(pairs))]
            edges = {pair: length for pair, length in zip(pairs, lengths) if 1 <= length <= 9}
            expected = distances_by_trial(n, edges)
            asked = [(i, j) for i in range(n) for j in range(n)]
            calls = build(n, edges)
            given = ask(*calls, *[distance(i, j) for i, j in asked])[len(calls):]
            for (i, j), answer in zip(asked, given):
                with self.subTest(edges=edges, i=i, j=j):
                    self.assertEqual(answer, [-33] if expected[i][j] is None else [expected[i][j]])


if __name__ == "__main__":
    unittest.main()
