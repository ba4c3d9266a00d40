import unittest
from random import Random

from tests.cases import GRAPHS, heavy, heavy_cases, small_cases
from tests.independent import best_by_corners, best_by_units, distances_by_trial, plan_cost, shares
from tests.support import ask, build, cost_of, last_answer, min_cost, optimal_plan, plan_of


def plan_and_cost(n, edges, first, second):
    calls = build(n, edges, [first, second])
    return plan_of(last_answer(*calls, optimal_plan(0, 1)), n)


class OptimalPlan(unittest.TestCase):
    def test_greatest_of_several(self):
        # On the row 1 - 0 - 2 the earth may as well stay or be handed on.
        calls = build(3, {(0, 1): 1, (0, 2): 1}, [[1, 1, 0], [1, 0, 1]])
        staying = [9, 1, 2, 0, 1, 0, 1, 0, 1, 0, 1, 1, 2, 0, 1, 0, 1, 0, 1, 1, 1]
        self.assertEqual(last_answer(*calls, optimal_plan(0, 1)), staying)
        # On a square whose sides are equal 0 can give to 1 and 2 to 3, or crosswise.
        square = {(0, 1): 1, (1, 2): 1, (2, 3): 1, (0, 3): 1}
        plan, cost = plan_and_cost(4, square, [1, 0, 1, 0], [0, 1, 0, 1])
        self.assertEqual([[int(2 * p) for p in row] for row in plan],
                         [[0, 1, 0, 0], [0, 0, 0, 0], [0, 0, 0, 1], [0, 0, 0, 0]])
        self.assertEqual(cost, 1)

    def test_both_directions_are_looked_for_anew(self):
        # Backwards the greatest plan is not the same one read the other way.
        row = {(0, 1): 1, (1, 2): 1, (2, 3): 1}
        first, second = [1, 1, 0, 0], [0, 0, 1, 1]
        there, _ = plan_and_cost(4, row, first, second)
        back, _ = plan_and_cost(4, row, second, first)
        self.assertEqual([[int(2 * p) for p in line] for line in there],
                         [[0, 0, 1, 0], [0, 0, 0, 1], [0, 0, 0, 0], [0, 0, 0, 0]])
        self.assertEqual([[int(2 * p) for p in line] for line in back],
                         [[0, 0, 0, 0], [0, 0, 0, 0], [1, 0, 0, 0], [0, 1, 0, 0]])

    def test_against_all_plans(self):
        for name, n, edges, distances, first, second in small_cases():
            with self.subTest(name, first=first, second=second):
                cost, plan = best_by_units(first, second, distances)
                self.assertEqual(plan_and_cost(n, edges, first, second), (plan, cost))

    def test_against_all_corners(self):
        for name, n, edges, distances, first, second in heavy_cases(3, 40):
            with self.subTest(name, first=first, second=second):
                cost, plan = best_by_corners(first, second, distances)
                self.assertEqual(plan_and_cost(n, edges, first, second), (plan, cost))

    def test_against_all_corners_of_four_points(self):
        random = Random(3)
        for name in ("row of four", "square"):
            n, edges = GRAPHS[name]
            for _ in range(3):
                first, second = heavy(random, n), heavy(random, n)
                with self.subTest(name, first=first, second=second):
                    distances = distances_by_trial(n, edges)
                    cost, plan = best_by_corners(first, second, distances)
                    self.assertEqual(plan_and_cost(n, edges, first, second), (plan, cost))

    def test_adds_up_at_the_lowest_cost(self):
        for name, n, edges, distances, first, second in heavy_cases(6, 25):
            with self.subTest(name, first=first, second=second):
                calls = build(n, edges, [first, second])
                lowest, planned = ask(*calls, min_cost(0, 1), optimal_plan(0, 1))[len(calls):]
                plan, cost = plan_of(planned, n)
                self.assertGreaterEqual(min(min(row) for row in plan), 0)
                self.assertEqual([sum(row) for row in plan], shares(first))
                self.assertEqual([sum(column) for column in zip(*plan)], shares(second))
                self.assertEqual(plan_cost(plan, distances), cost)
                self.assertEqual(cost_of(lowest), cost)

    def test_one_point(self):
        calls = build(1, {}, [[3], [20]])
        for k in range(4):
            for l in range(4):
                with self.subTest(k=k, l=l):
                    self.assertEqual(last_answer(*calls, optimal_plan(k, l)), [1, 1, 1, 0, 1])

    def test_equal_distributions_stay_where_they_are(self):
        for name, (n, edges) in GRAPHS.items():
            weights = [i % 3 + 1 for i in range(n)]
            calls = build(n, edges, [weights, [3 * weight for weight in weights]])
            expected = [[share if i == j else 0 for j in range(n)] for i, share in enumerate(shares(weights))]
            for k, l in ((0, 0), (0, 1), (1, 0), (1, 1)):
                with self.subTest(name, k=k, l=l):
                    found = plan_of(last_answer(*calls, optimal_plan(k, l)), n)
                    self.assertEqual(found, (expected, 0))

    def test_each_pair_of_slots(self):
        for k in range(4):
            for l in range(4):
                weights = [[1, 0], [1, 0], [1, 0], [1, 0]]
                weights[k] = [1, 3]
                weights[l] = [3, 1]
                with self.subTest(k=k, l=l):
                    answer = last_answer(*build(2, {(0, 1): 5}, weights), optimal_plan(k, l))
                    moved = [4, 1, 4, 0, 1, 1, 2, 1, 4, 5, 2]
                    stayed = [4, 3, 4, 0, 1, 0, 1, 1, 4, 0, 1]
                    self.assertEqual(answer, stayed if k == l else moved)


if __name__ == "__main__":
    unittest.main()
