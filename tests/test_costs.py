import unittest

from tests.cases import GRAPHS, NO_SLOTS, NOT_CONNECTED, heavy_cases, small_cases
from tests.independent import best_by_corners, best_by_units, cost_by_prices
from tests.support import (ask, build, cost_of, create, last_answer, min_cost, optimal_plan, set_edge,
                           state_calls)


def cost(n, edges, first, second):
    return cost_of(last_answer(*build(n, edges, [first, second]), min_cost(0, 1)))


class MinCost(unittest.TestCase):
    def test_known_ones(self):
        cases = [
            ([1, 0, 0], [0, 0, 1], [0, 5, 1]),
            ([1, 1, 0], [0, 1, 1], [0, 5, 2]),
            ([1, 1, 1], [0, 0, 1], [0, 8, 3]),
            ([3, 0, 0], [20, 1, 0], [0, 2, 21]),
            ([20, 20, 20], [1, 1, 1], [0, 0, 1]),
        ]
        for first, second, answer in cases:
            with self.subTest(first=first, second=second):
                calls = build(3, {(0, 1): 2, (1, 2): 3}, [first, second])
                self.assertEqual(last_answer(*calls, min_cost(0, 1)), answer)

    def test_each_pair_of_slots(self):
        weights = [[1, 0, 0], [0, 1, 0], [0, 0, 1], [1, 1, 0]]
        expected = [[0, 2, 5, 1], [2, 0, 3, 1], [5, 3, 0, 4], [1, 1, 4, 0]]
        calls = build(3, {(0, 1): 2, (1, 2): 3}, weights)
        for k in range(4):
            for l in range(4):
                with self.subTest(k=k, l=l):
                    answer = last_answer(*calls, min_cost(k, l))
                    self.assertEqual(answer, [0, expected[k][l], 1])

    def test_against_all_plans(self):
        for name, n, edges, distances, first, second in small_cases():
            with self.subTest(name, first=first, second=second):
                expected = best_by_units(first, second, distances)[0]
                self.assertEqual(cost(n, edges, first, second), expected)

    def test_against_all_corners(self):
        for name, n, edges, distances, first, second in heavy_cases(3, 40):
            with self.subTest(name, first=first, second=second):
                expected = best_by_corners(first, second, distances)[0]
                self.assertEqual(cost(n, edges, first, second), expected)

    def test_against_all_prices(self):
        for name, n, edges, distances, first, second in heavy_cases(5, 20):
            with self.subTest(name, first=first, second=second):
                expected = cost_by_prices(first, second, distances)
                self.assertEqual(cost(n, edges, first, second), expected)

    def test_other_edges_other_cost(self):
        calls = build(3, {(0, 1): 9, (1, 2): 9}, [[1, 0, 0], [0, 0, 1]])
        given = ask(*calls, min_cost(0, 1), set_edge(0, 2, 4), min_cost(0, 1), set_edge(1, 0, 0),
                    set_edge(1, 2, 0), min_cost(0, 1))
        self.assertEqual(given[len(calls):], [[0, 18, 1], [0], [0, 4, 1], [9], [9], [-33]])

    def test_one_point(self):
        calls = build(1, {}, [[3], [20]])
        for k in range(4):
            for l in range(4):
                with self.subTest(k=k, l=l):
                    self.assertEqual(last_answer(*calls, min_cost(k, l)), [0, 0, 1])

    def test_same_slot_and_same_distribution(self):
        for name, (n, edges) in GRAPHS.items():
            weights = [i % 3 + 1 for i in range(n)]
            doubled = [2 * weight for weight in weights]
            calls = build(n, edges, [weights, doubled])
            with self.subTest(name):
                given = ask(*calls, min_cost(0, 0), min_cost(0, 1), min_cost(1, 0), min_cost(3, 2))
                self.assertEqual(given[len(calls):], [[0, 0, 1]] * 4)


class Refusals(unittest.TestCase):
    """The errors of both calls, which are the same."""

    def test_no_such_slot(self):
        for call in (min_cost, optimal_plan):
            for slot in NO_SLOTS:
                for k, l in ((slot, 0), (0, slot), (slot, slot), (3, slot)):
                    with self.subTest(call=call.__name__, k=k, l=l):
                        calls = build(3, {(0, 1): 2, (1, 2): 3})
                        self.assertEqual(last_answer(*calls, call(k, l)), [-2])

    def test_not_connected(self):
        for call in (min_cost, optimal_plan):
            for name, (n, edges) in NOT_CONNECTED.items():
                for k, l in ((0, 0), (0, 1), (3, 2)):
                    with self.subTest(name, call=call.__name__, k=k, l=l):
                        # The other points of the graph have nothing to carry.
                        calls = build(n, edges, [[1] + [0] * (n - 1), [2] + [0] * (n - 1)])
                        self.assertEqual(last_answer(*calls, call(k, l)), [-33])

    def test_slot_ahead_of_not_connected(self):
        for call in (min_cost, optimal_plan):
            for slot in NO_SLOTS:
                for k, l in ((slot, 0), (0, slot), (slot, slot)):
                    with self.subTest(call=call.__name__, k=k, l=l):
                        self.assertEqual(last_answer(create(2), call(k, l)), [-2])

    def test_leave_the_instance(self):
        calls = build(3, {(0, 1): 2, (1, 2): 3}, [[1, 2, 3], [3, 1, 0], [0, 0, 9], [4, 4, 4]])
        cut = calls + [set_edge(1, 2, 0)]
        for call in (min_cost, optimal_plan):
            for made in (calls, cut):
                expected = ask(*made, *state_calls(3))[len(made):]
                for k, l in ((0, 1), (2, 3), (1, 1), (4, 0)):
                    with self.subTest(call=call.__name__, k=k, l=l):
                        given = ask(*made, call(k, l), *state_calls(3))[len(made) + 1:]
                        self.assertEqual(given, expected)


if __name__ == "__main__":
    unittest.main()
