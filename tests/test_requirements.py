"""The requirements that are laid upon the whole, over many distributions on many graphs."""

import unittest
from fractions import Fraction

from tests.cases import random_cases
from tests.independent import are_feasible, are_margins, plan_cost, value_of
from tests.support import (ask, compose_plans, cost_of, min_cost, optimal_plan, optimal_potentials,
                           plan_of, potentials_of)

TIMES = 240


def answers_of(calls, *asked):
    return ask(*calls, *asked)[len(calls):]


class Requirements(unittest.TestCase):
    def test_duality(self):
        for n, calls, distances, slots in random_cases(TIMES):
            with self.subTest(calls=calls):
                lowest, planned, priced = answers_of(
                    calls, min_cost(0, 3), optimal_plan(0, 3), optimal_potentials(0, 3))
                plan, cost = plan_of(planned, n)
                potentials, value = potentials_of(priced, n)
                self.assertEqual(cost, value)
                self.assertEqual(cost, cost_of(lowest))
                # A plan and feasible potentials with the same cost and value: none can be better.
                self.assertTrue(are_margins(plan, slots[0], slots[3]))
                self.assertGreaterEqual(min(p for row in plan for p in row), 0)
                self.assertEqual(plan_cost(plan, distances), cost)
                self.assertTrue(are_feasible(potentials, distances))
                self.assertEqual(value_of(potentials, slots[0], slots[3]), value)
                self.assertEqual(potentials[0], 0)

    def test_metric(self):
        for n, calls, distances, slots in random_cases(TIMES):
            with self.subTest(calls=calls):
                given = answers_of(calls, *[min_cost(k, l) for k in range(4) for l in range(4)])
                costs = [cost_of(answer) for answer in given]
                for k in range(4):
                    for l in range(4):
                        self.assertEqual(costs[4 * k + l], costs[4 * l + k])
                        self.assertEqual(costs[4 * k + l] == 0, slots[k] == slots[l])
                        for m in range(4):
                            self.assertLessEqual(costs[4 * k + m], costs[4 * k + l] + costs[4 * l + m])

    def test_bounds(self):
        for n, calls, distances, slots in random_cases(TIMES):
            ways = [distances[i][j] for i in range(n) for j in range(n) if i != j] or [0]
            for k, l in ((0, 1), (0, 2), (1, 3), (2, 2)):
                with self.subTest(calls=calls, k=k, l=l):
                    moved = sum((max(Fraction(0), a - b) for a, b in zip(slots[k], slots[l])), Fraction(0))
                    cost = cost_of(answers_of(calls, min_cost(k, l))[0])
                    self.assertLessEqual(moved * min(ways), cost)
                    self.assertLessEqual(cost, moved * max(ways))

    def test_composition(self):
        for n, calls, distances, slots in random_cases(TIMES):
            for k, l, m in ((0, 1, 2), (3, 0, 3), (2, 3, 1)):
                with self.subTest(calls=calls, k=k, l=l, m=m):
                    composed, lowest = answers_of(calls, compose_plans(k, l, m), min_cost(k, m))
                    plan, cost = plan_of(composed, n)
                    self.assertTrue(are_margins(plan, slots[k], slots[m]))
                    self.assertGreaterEqual(min(p for row in plan for p in row), 0)
                    self.assertEqual(plan_cost(plan, distances), cost)
                    self.assertGreaterEqual(cost, cost_of(lowest))


if __name__ == "__main__":
    unittest.main()
