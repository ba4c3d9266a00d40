import unittest

from tests.cases import NO_SLOTS, NOT_CONNECTED, derived_cases, heavy_cases
from tests.independent import plan_cost, shares
from tests.support import (HIGHEST, LOWEST, as_whole, build, check_plan, cost_of, create,
                           last_answer, min_cost, optimal_plan, plan_of, told_of)

ROW = {(0, 1): 2, (1, 2): 3}
HALVES = build(3, ROW, [[1, 1, 0], [0, 1, 1]])
PLAN = [0, 0, 1, 0, 1, 0, 0, 0, 0]


def product_plan(before, after):
    """A plan that any two distributions have: everything goes everywhere."""
    return [[p * q for q in after] for p in before]


class CheckPlan(unittest.TestCase):
    def test_plans(self):
        cases = [
            (2, PLAN, [1, 5, 2]),
            (2, [0, 1, 0, 0, 0, 1, 0, 0, 0], [1, 5, 2]),
            (4, [0, 0, 2, 0, 2, 0, 0, 0, 0], [1, 5, 2]),
            (4, [0, 1, 1, 0, 1, 1, 0, 0, 0], [1, 5, 2]),
            (6, [0, 1, 2, 0, 2, 1, 0, 0, 0], [1, 5, 2]),
            (2000, [0, 1000, 0, 0, 0, 1000, 0, 0, 0], [1, 5, 2]),
        ]
        for denominator, entries, answer in cases:
            with self.subTest(denominator=denominator, entries=entries):
                self.assertEqual(last_answer(*HALVES, check_plan(0, 1, denominator, entries)), answer)

    def test_cost_of_plans_that_are_not_the_best(self):
        calls = build(3, ROW, [[1, 1, 1], [1, 1, 1]])
        cases = [
            ([1, 0, 0, 0, 1, 0, 0, 0, 1], [1, 0, 1]),
            ([0, 1, 0, 1, 0, 0, 0, 0, 1], [1, 4, 3]),
            ([0, 0, 1, 0, 1, 0, 1, 0, 0], [1, 10, 3]),
            ([0, 1, 0, 0, 0, 1, 1, 0, 0], [1, 10, 3]),
            ([1, 0, 0, 0, 0, 1, 0, 1, 0], [1, 2, 1]),
        ]
        for entries, answer in cases:
            with self.subTest(entries=entries):
                self.assertEqual(last_answer(*calls, check_plan(0, 1, 3, entries)), answer)

    def test_not_plans(self):
        cases = {
            "too little": (2, [0, 1, 0, 0, 0, 0, 0, 0, 0]),
            "nothing": (2, [0] * 9),
            "too much": (2, [0, 1, 0, 0, 0, 1, 0, 1, 0]),
            "twice as much": (1, PLAN),
            "half as much": (4, PLAN),
            "somewhat less": (3, PLAN),
            "columns wrong": (2, [1, 0, 0, 0, 1, 0, 0, 0, 0]),
            "rows wrong": (2, [0, 1, 0, 0, 0, 0, 0, 0, 1]),
            "the other way": (2, [0, 0, 0, 0, 1, 0, 1, 0, 0]),
            "one row, column sums right": (2, [0, 1, 1, 0, 0, 0, 0, 0, 0]),
            "one column, row sums right": (2, [0, 0, 1, 0, 0, 1, 0, 0, 0]),
        }
        for name, (denominator, entries) in cases.items():
            with self.subTest(name):
                self.assertEqual(last_answer(*HALVES, check_plan(0, 1, denominator, entries)), [0])

    def test_entries_below_0(self):
        # The sums are right, so it is the entries alone that tell.
        cases = [
            (2, [-1, 1, 1, 1, 0, 0, 0, 0, 0]),
            (2, [0, 2, -1, 0, -1, 2, 0, 0, 0]),
            (2, [0, 0, 1, 0, 1, 0, 0, 0, 0]),
            (2, [1, 0, 0, 0, 1, 0, -1, 0, 1]),
            (2, [0, 0, 1, 0, 1, 0, 1, 0, -1]),
            (4, [0, 3, -1, 0, -1, 3, 0, 0, 0]),
        ]
        for denominator, entries in cases:
            with self.subTest(denominator=denominator, entries=entries):
                answer = last_answer(*HALVES, check_plan(0, 1, denominator, entries))
                self.assertEqual(answer, [0] if min(entries) < 0 else [1, 5, 2])
        for entries in ([-1] * 9, [LOWEST] * 9, [LOWEST] + [HIGHEST] * 8):
            with self.subTest(entries=entries):
                self.assertEqual(last_answer(*HALVES, check_plan(0, 1, 1, entries)), [0])

    def test_denominator(self):
        for denominator in (LOWEST, LOWEST + 1, -2, -1, 0):
            for entries in (PLAN, [-entry for entry in PLAN], [0] * 9):
                with self.subTest(denominator=denominator, entries=entries):
                    self.assertEqual(last_answer(*HALVES, check_plan(0, 1, denominator, entries)), [-22])
        calls = build(3, ROW, [[1, 0, 0], [0, 0, 1]])
        for denominator in (1, 2, 3, 100000, 100001, HIGHEST - 1, HIGHEST):
            with self.subTest(denominator=denominator):
                entries = [0, 0, denominator, 0, 0, 0, 0, 0, 0]
                self.assertEqual(last_answer(*calls, check_plan(0, 1, denominator, entries)), [1, 5, 1])
                entries[2] -= 1
                self.assertEqual(last_answer(*calls, check_plan(0, 1, denominator, entries)), [0])
                entries[8] = 1
                self.assertEqual(last_answer(*calls, check_plan(0, 1, denominator, entries)), [0])

    def test_how_many_entries(self):
        for n in range(1, 7):
            calls = build(n, {(i, i + 1): 1 for i in range(n - 1)})
            for length in sorted({0, 1, n, n * n - 1, n * n, n * n + 1, 35, 36, 37, 70}):
                with self.subTest(n=n, length=length):
                    entries = ([3] + [0] * 69)[:length]
                    answer = last_answer(*calls, check_plan(0, 1, 3, entries))
                    self.assertEqual(answer, [1, 0, 1] if length == n * n else [-22])

    def test_one_point(self):
        calls = build(1, {}, [[3], [20]])
        for denominator in (1, 2, 7, HIGHEST):
            for entry in (LOWEST, -denominator, -1, 0, 1, 2, 7, HIGHEST):
                with self.subTest(denominator=denominator, entry=entry):
                    answer = last_answer(*calls, check_plan(0, 1, denominator, [entry]))
                    self.assertEqual(answer, [1, 0, 1] if entry == denominator else [0])

    def test_each_pair_of_slots(self):
        weights = [[1, 0, 0], [0, 1, 0], [0, 0, 1], [1, 1, 2]]
        calls = build(3, ROW, weights)
        for k in range(4):
            for l in range(4):
                entries = [w * v for w in weights[k] for v in weights[l]]
                for i in range(4):
                    for j in range(4):
                        with self.subTest(k=k, l=l, i=i, j=j):
                            call = check_plan(i, j, sum(entries), entries)
                            answer = last_answer(*calls, call)
                            self.assertEqual(len(answer), 3 if (i, j) == (k, l) else 1)

    def test_products_and_what_is_nearly_so(self):
        for name, n, edges, distances, first, second in heavy_cases(6, 8):
            plan = product_plan(shares(first), shares(second))
            calls = build(n, edges, [first, second])
            lowest = cost_of(last_answer(*calls, min_cost(0, 1)))
            units, entries = as_whole(plan)
            for times in (1, 2, 7):
                with self.subTest(name, first=first, second=second, times=times):
                    asked = check_plan(0, 1, units * times, [times * entry for entry in entries])
                    told = told_of(last_answer(*calls, asked))
                    self.assertEqual(told, (True, plan_cost(plan, distances)))
                    self.assertGreaterEqual(told[1], lowest)
            for place in range(n * n):
                with self.subTest(name, first=first, second=second, place=place):
                    entries[place] += 1
                    self.assertEqual(last_answer(*calls, check_plan(0, 1, units, entries)), [0])
                    entries[place] -= 1

    def test_optimal_plans(self):
        for name, n, edges, _, first, second in heavy_cases(6, 8):
            with self.subTest(name, first=first, second=second):
                calls = build(n, edges, [first, second])
                plan, cost = plan_of(last_answer(*calls, optimal_plan(0, 1)), n)
                asked = check_plan(0, 1, *as_whole(plan))
                self.assertEqual(told_of(last_answer(*calls, asked)), (True, cost))

    def test_derived_distributions(self):
        for name, n, calls, distances, before, after in derived_cases(60):
            plan = product_plan(before, after)
            units, entries = as_whole(plan)
            if units <= HIGHEST:
                with self.subTest(name, before=before, after=after):
                    told = told_of(last_answer(*calls, check_plan(0, 1, units, entries)))
                    self.assertEqual(told, (True, plan_cost(plan, distances)))
                    entries[-1] += 1
                    self.assertEqual(last_answer(*calls, check_plan(0, 1, units, entries)), [0])


class Refusals(unittest.TestCase):
    def test_no_such_slot(self):
        for edges in (ROW, {}):
            for slot in NO_SLOTS:
                for k, l in ((slot, 0), (0, slot), (slot, slot), (3, slot)):
                    for denominator, entries in ((2, PLAN), (0, PLAN), (2, []), (LOWEST, [1] * 70)):
                        with self.subTest(edges=edges, k=k, l=l, denominator=denominator, entries=entries):
                            calls = build(3, edges)
                            answer = last_answer(*calls, check_plan(k, l, denominator, entries))
                            self.assertEqual(answer, [-2])

    def test_malformed_ahead_of_not_connected(self):
        for denominator, entries in ((0, PLAN), (-1, PLAN), (2, []), (2, PLAN[1:]), (2, PLAN + [0]), (0, [])):
            with self.subTest(denominator=denominator, entries=entries):
                answer = last_answer(create(3), check_plan(0, 1, denominator, entries))
                self.assertEqual(answer, [-22])

    def test_not_connected(self):
        for name, (n, edges) in NOT_CONNECTED.items():
            for k, l in ((0, 0), (0, 1), (3, 2)):
                # Whether it is a plan or not.
                for entries in ([1] + [0] * (n * n - 1), [0] * (n * n), [-1] * (n * n)):
                    with self.subTest(name, k=k, l=l, entries=entries):
                        calls = build(n, edges, [[1] + [0] * (n - 1), [2] + [0] * (n - 1)])
                        self.assertEqual(last_answer(*calls, check_plan(k, l, 1, entries)), [-33])


if __name__ == "__main__":
    unittest.main()
