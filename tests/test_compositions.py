import unittest
from random import Random

from tests.cases import GRAPHS, NO_SLOTS, NOT_CONNECTED, derived_requests, heavy
from tests.independent import (are_margins, best_by_corners, composition, distances_by_trial, plan_cost,
                               shares)
from tests.support import (HIGHEST, as_whole, ask, build, check_plan, compose_plans, cost_of, last_answer,
                           min_cost, optimal_plan, plan_of, told_of)

ROW = {(0, 1): 2, (1, 2): 3}


class ComposePlans(unittest.TestCase):
    def test_known_ones(self):
        cases = [
            # All is at point 1 in between, and half of it goes on, wherever it came from.
            ([[1, 1, 0], [0, 1, 0], [1, 1, 0]], [9, 1, 4, 1, 4, 0, 1, 1, 4, 1, 4, 0, 1, 0, 1, 0, 1, 0, 1, 1, 1]),
            ([[1, 0, 0], [0, 1, 0], [0, 0, 1]], [9, 0, 1, 0, 1, 1, 1] + [0, 1] * 6 + [5, 1]),
            ([[1, 0, 0], [0, 0, 1], [1, 0, 0]], [9, 1, 1] + [0, 1] * 8 + [0, 1]),
            ([[1, 0, 0], [0, 0, 1], [0, 1, 0]], [9, 0, 1, 1, 1] + [0, 1] * 7 + [2, 1]),
            # The same through point 2: the product of both distributions.
            ([[1, 2, 0], [0, 0, 1], [3, 0, 1]], [9, 1, 4, 0, 1, 1, 12, 1, 2, 0, 1, 1, 6, 0, 1, 0, 1, 0, 1, 23, 12]),
        ]
        for weights, answer in cases:
            with self.subTest(weights=weights):
                calls = build(3, ROW, weights)
                self.assertEqual(last_answer(*calls, compose_plans(0, 1, 2)), answer)

    def test_not_always_the_lowest_cost(self):
        calls = build(3, ROW, [[1, 1, 0], [0, 1, 0], [1, 1, 0]])
        given = ask(*calls, min_cost(0, 2), compose_plans(0, 1, 2))
        self.assertEqual(given[-2], [0, 0, 1])
        self.assertEqual(plan_of(given[-1], 3)[1], 1)

    def test_each_three_slots(self):
        weights = [[1, 0, 2], [0, 3, 1], [1, 1, 1], [4, 1, 0]]
        distances = distances_by_trial(3, ROW)
        calls = build(3, ROW, weights)
        for k in range(4):
            for l in range(4):
                for m in range(4):
                    with self.subTest(k=k, l=l, m=m):
                        there = best_by_corners(weights[k], weights[l], distances)[1]
                        onward = best_by_corners(weights[l], weights[m], distances)[1]
                        plan = composition(there, onward, shares(weights[l]))
                        found = plan_of(last_answer(*calls, compose_plans(k, l, m)), 3)
                        self.assertEqual(found, (plan, plan_cost(plan, distances)))

    def check(self, calls, n, distances, slots):
        """The composition is that of the plans that are answered, and a plan itself."""
        given = ask(*calls, optimal_plan(0, 1), optimal_plan(1, 2), compose_plans(0, 1, 2), min_cost(0, 2))
        there, onward, composed = [plan_of(answer, n) for answer in given[-4:-1]]
        plan = composition(there[0], onward[0], shares(slots[1]))
        self.assertEqual(composed, (plan, plan_cost(plan, distances)))
        self.assertGreaterEqual(min(p for row in plan for p in row), 0)
        self.assertTrue(are_margins(plan, slots[0], slots[2]))
        self.assertGreaterEqual(composed[1], cost_of(given[-1]))
        self.assertLessEqual(composed[1], there[1] + onward[1])
        units, entries = as_whole(plan)
        if units <= HIGHEST:
            told = told_of(last_answer(*calls, check_plan(0, 2, units, entries)))
            self.assertEqual(told, (True, composed[1]))

    def test_is_a_plan(self):
        random = Random(5)
        for name, (n, edges) in GRAPHS.items():
            for _ in range(20):
                weights = [heavy(random, n) for _ in range(3)]
                with self.subTest(name, weights=weights):
                    self.check(build(n, edges, weights), n, distances_by_trial(n, edges), weights)

    def test_is_a_plan_of_derived_distributions(self):
        random = Random(6)
        for name, (n, edges) in list(GRAPHS.items()) * 3:
            calls, slots = derived_requests(random, n)
            with self.subTest(name, slots=slots):
                self.check(build(n, edges) + calls, n, distances_by_trial(n, edges), slots)

    def test_through_points_with_nothing_at_them(self):
        for name, (n, edges) in GRAPHS.items():
            everywhere = [i + 1 for i in range(n)]
            for middle in range(n):
                at_one = [5 if i == middle else 0 for i in range(n)]
                weights = [everywhere, at_one, everywhere[::-1]]
                with self.subTest(name, middle=middle):
                    distances = distances_by_trial(n, edges)
                    self.check(build(n, edges, weights), n, distances, weights)
                    plan, _ = plan_of(last_answer(*build(n, edges, weights), compose_plans(0, 1, 2)), n)
                    before, after = shares(weights[0]), shares(weights[2])
                    self.assertEqual(plan, [[p * q for q in after] for p in before])

    def test_from_or_to_the_middle_it_is_the_other_plan(self):
        random = Random(7)
        for name, (n, edges) in GRAPHS.items():
            with self.subTest(name):
                calls = build(n, edges, [heavy(random, n), heavy(random, n)])
                given = ask(*calls, optimal_plan(0, 1), compose_plans(0, 0, 1), compose_plans(0, 1, 1))
                self.assertEqual(given[-2:], [given[-3]] * 2)

    def test_one_point(self):
        calls = build(1, {}, [[3], [20]])
        for k in range(4):
            for l in range(4):
                with self.subTest(k=k, l=l):
                    self.assertEqual(last_answer(*calls, compose_plans(k, l, 2)), [1, 1, 1, 0, 1])


class Refusals(unittest.TestCase):
    def test_no_such_slot(self):
        for edges in (ROW, {}):
            for slot in NO_SLOTS:
                for slots in ((slot, 0, 1), (0, slot, 1), (0, 1, slot), (slot, slot, slot), (slot, slot, 3)):
                    with self.subTest(edges=edges, slots=slots):
                        self.assertEqual(last_answer(*build(3, edges), compose_plans(*slots)), [-2])

    def test_not_connected(self):
        for name, (n, edges) in NOT_CONNECTED.items():
            for slots in ((0, 0, 0), (0, 1, 2), (3, 2, 3)):
                with self.subTest(name, slots=slots):
                    calls = build(n, edges, [[1] + [0] * (n - 1), [2] + [0] * (n - 1)])
                    self.assertEqual(last_answer(*calls, compose_plans(*slots)), [-33])


if __name__ == "__main__":
    unittest.main()
