import unittest
from itertools import combinations

from tests.cases import GRAPHS, NO_SLOTS, NOT_CONNECTED, derived_cases, heavy_cases, small_cases
from tests.independent import are_feasible, best_prices, value_of
from tests.support import (HIGHEST, LOWEST, ask, build, check_potentials, cost_of, create, distance,
                           last_answer, min_cost, optimal_plan, optimal_potentials, plan_of,
                           potentials_of, set_edge, told_of)

ROW = {(0, 1): 2, (1, 2): 3}


def best_potentials(n, edges, first, second):
    calls = build(n, edges, [first, second])
    return potentials_of(last_answer(*calls, optimal_potentials(0, 1)), n)


class OptimalPotentials(unittest.TestCase):
    def test_known_ones(self):
        cases = [
            ([1, 1, 0], [0, 1, 1], [3, 0, 2, 5, 5, 2]),
            ([0, 1, 1], [1, 1, 0], [3, 0, -2, -5, 5, 2]),
            ([1, 0, 0], [0, 0, 1], [3, 0, 2, 5, 5, 1]),
            ([0, 0, 1], [1, 0, 0], [3, 0, -2, -5, 5, 1]),
            # At point 2 nothing changes, so the price there is as high as it may be.
            ([1, 0, 0], [0, 1, 0], [3, 0, 2, 5, 2, 1]),
            ([0, 1, 0], [1, 0, 0], [3, 0, -2, 1, 2, 1]),
            ([0, 1, 0], [0, 0, 1], [3, 0, 2, 5, 3, 1]),
            ([0, 0, 1], [0, 1, 0], [3, 0, 2, -1, 3, 1]),
            ([1, 0, 1], [0, 1, 0], [3, 0, 2, -1, 5, 2]),
            ([0, 1, 0], [1, 0, 1], [3, 0, -2, 1, 5, 2]),
            # Without anything to carry all feasible potentials have the value 0.
            ([1, 2, 3], [1, 2, 3], [3, 0, 2, 5, 0, 1]),
            ([1, 2, 3], [2, 4, 6], [3, 0, 2, 5, 0, 1]),
        ]
        for first, second, answer in cases:
            with self.subTest(first=first, second=second):
                calls = build(3, ROW, [first, second])
                self.assertEqual(last_answer(*calls, optimal_potentials(0, 1)), answer)

    def test_both_ends_of_the_longest_row(self):
        row = {(i, i + 1): 9 for i in range(5)}
        there = [6, 0, 9, 18, 27, 36, 45, 45, 1]
        back = [6, 0, -9, -18, -27, -36, -45, 45, 1]
        calls = build(6, row, [[1, 0, 0, 0, 0, 0], [0, 0, 0, 0, 0, 1]])
        self.assertEqual(last_answer(*calls, optimal_potentials(0, 1)), there)
        self.assertEqual(last_answer(*calls, optimal_potentials(1, 0)), back)

    def test_each_pair_of_slots(self):
        weights = [[1, 0, 0], [0, 1, 0], [0, 0, 1], [1, 0, 1]]
        calls = build(3, ROW, weights)
        for k in range(4):
            for l in range(4):
                with self.subTest(k=k, l=l):
                    answer = last_answer(*calls, optimal_potentials(k, l))
                    value, prices = best_prices(weights[k], weights[l], [[0, 2, 5], [2, 0, 3], [5, 3, 0]])
                    self.assertEqual(potentials_of(answer, 3), (prices, value))

    def test_against_all_prices(self):
        for name, n, edges, distances, first, second in heavy_cases(5, 12):
            with self.subTest(name, first=first, second=second):
                value, prices = best_prices(first, second, distances)
                self.assertEqual(best_potentials(n, edges, first, second), (prices, value))

    def test_against_all_prices_of_few_units(self):
        # With few units many plans are the best, and some carry little: more prices are the best too.
        for name, n, edges, distances, first, second in small_cases():
            if n < 5:
                with self.subTest(name, first=first, second=second):
                    value, prices = best_prices(first, second, distances)
                    self.assertEqual(best_potentials(n, edges, first, second), (prices, value))

    def test_none_can_be_raised(self):
        # Were there greater ones, some points could be raised by 1, all at once.
        cases = list(heavy_cases(6, 12)) + list(small_cases())
        for name, n, edges, distances, first, second in cases:
            with self.subTest(name, first=first, second=second):
                potentials, value = best_potentials(n, edges, first, second)
                self.assertEqual(potentials[0], 0)
                for count in range(1, n):
                    for points in combinations(range(1, n), count):
                        raised = [f + (i in points) for i, f in enumerate(potentials)]
                        if are_feasible(raised, distances):
                            self.assertLess(value_of(raised, first, second), value)

    def test_one_point(self):
        for k in range(4):
            for l in range(4):
                with self.subTest(k=k, l=l):
                    answer = last_answer(*build(1, {}, [[3], [20]]), optimal_potentials(k, l))
                    self.assertEqual(answer, [1, 0, 0, 1])

    def test_equal_distributions_give_the_distances_from_point_0(self):
        for name, (n, edges) in GRAPHS.items():
            weights = [i % 3 + 1 for i in range(n)]
            calls = build(n, edges, [weights, [3 * weight for weight in weights]])
            for k, l in ((0, 0), (0, 1), (1, 0), (2, 3)):
                with self.subTest(name, k=k, l=l):
                    given = ask(*calls, optimal_potentials(k, l), *[distance(0, i) for i in range(n)])
                    away = [answer[0] for answer in given[len(calls) + 1:]]
                    self.assertEqual(given[len(calls)], [n] + away + [0, 1])

    def test_other_edges_other_potentials(self):
        calls = build(3, {(0, 1): 9, (1, 2): 9}, [[1, 0, 0], [0, 0, 1]])
        given = ask(*calls, optimal_potentials(0, 1), set_edge(0, 2, 4), optimal_potentials(0, 1),
                    set_edge(1, 2, 0), optimal_potentials(0, 1), set_edge(0, 2, 0), optimal_potentials(0, 1))
        self.assertEqual(given[len(calls):], [[3, 0, 9, 18, 18, 1], [0], [3, 0, 9, 4, 4, 1], [9],
                                              [3, 0, 9, 4, 4, 1], [4], [-33]])


class Duality(unittest.TestCase):
    def test_value_is_the_cost(self):
        for name, n, edges, distances, first, second in heavy_cases(6, 25):
            with self.subTest(name, first=first, second=second):
                calls = build(n, edges, [first, second])
                given = ask(*calls, min_cost(0, 1), optimal_plan(0, 1), optimal_potentials(0, 1))
                potentials, value = potentials_of(given[-1], n)
                self.assertEqual(value, cost_of(given[-3]))
                self.assertEqual(value, plan_of(given[-2], n)[1])
                self.assertTrue(are_feasible(potentials, distances))
                self.assertEqual(value_of(potentials, first, second), value)
                told = last_answer(*calls, check_potentials(0, 1, potentials))
                self.assertEqual(told_of(told), (True, value))

    def test_value_is_the_cost_of_derived_distributions(self):
        for name, n, calls, distances, before, after in derived_cases(40):
            with self.subTest(name, before=before, after=after):
                given = ask(*calls, min_cost(0, 1), optimal_plan(0, 1), optimal_potentials(0, 1))
                potentials, value = potentials_of(given[-1], n)
                self.assertEqual(value, cost_of(given[-3]))
                self.assertEqual(value, plan_of(given[-2], n)[1])
                self.assertTrue(are_feasible(potentials, distances))
                self.assertEqual(value_of(potentials, before, after), value)

    def test_no_feasible_potentials_have_a_greater_value(self):
        for name, n, edges, distances, first, second in heavy_cases(6, 6):
            calls = build(n, edges, [first, second])
            cost = cost_of(last_answer(*calls, min_cost(0, 1)))
            # Distances from points, with either sign, are feasible wherever they start.
            tried = [[sign * d + shift for d in row] for row in distances for sign in (1, -1) for shift in (0, 9)]
            asked = [check_potentials(0, 1, potentials) for potentials in tried]
            for potentials, answer in zip(tried, ask(*calls, *asked)[len(calls):]):
                with self.subTest(name, first=first, second=second, potentials=potentials):
                    feasible, value = told_of(answer)
                    self.assertTrue(feasible)
                    self.assertLessEqual(value, cost)


class CheckPotentials(unittest.TestCase):
    def test_known_ones(self):
        cases = [
            ([0, 2, 4], [1, 2, 1]),
            ([0, 0, 0], [1, 0, 1]),
            ([7, 9, 12], [1, 5, 2]),
            ([0, 2, 5], [1, 5, 2]),
            ([5, 3, 0], [1, -5, 2]),
            ([0, 3, 5], [0, 5, 2]),
            ([0, 2, 6], [0, 3, 1]),
            ([6, 3, 0], [0, -3, 1]),
            ([3, 0, 0], [0, -3, 2]),
            ([0, -3, 0], [0, 0, 1]),
            ([-9, -9, -9], [1, 0, 1]),
            ([-1, -2, -3], [1, -1, 1]),
        ]
        for potentials, answer in cases:
            with self.subTest(potentials=potentials):
                calls = build(3, ROW, [[1, 1, 0], [0, 1, 1]])
                self.assertEqual(last_answer(*calls, check_potentials(0, 1, potentials)), answer)

    def test_each_rise_up_to_the_distance(self):
        # Along the way round, not along the longer edge, and in both directions.
        calls = build(3, {(0, 1): 2, (1, 2): 3, (0, 2): 9}, [[1, 0, 0], [0, 0, 1]])
        for rise in range(-12, 13):
            with self.subTest(rise=rise):
                between = max(-2, min(2, rise))
                answer = last_answer(*calls, check_potentials(0, 1, [0, between, rise]))
                self.assertEqual(answer, [1 if abs(rise) <= 5 else 0, rise, 1])

    def test_values_against_fractions(self):
        for name, n, edges, distances, first, second in heavy_cases(6, 8):
            calls = build(n, edges, [first, second])
            for step in (-999, -7, -1, 0, 1, 2, 13):
                potentials = [max(-999, min(999, step * (i * i % 5) + i)) for i in range(n)]
                with self.subTest(name, first=first, second=second, potentials=potentials):
                    there, back = ask(*calls, check_potentials(0, 1, potentials),
                                      check_potentials(1, 0, potentials))[len(calls):]
                    value = value_of(potentials, first, second)
                    feasible = are_feasible(potentials, distances)
                    self.assertEqual(told_of(there), (feasible, value))
                    self.assertEqual(told_of(back), (feasible, -value))

    def test_derived_distributions(self):
        for name, n, calls, distances, before, after in derived_cases(40):
            potentials = [(7 * i + 3) % 11 - 5 for i in range(n)]
            with self.subTest(name, before=before, after=after):
                told = told_of(last_answer(*calls, check_potentials(0, 1, potentials)))
                value = value_of(potentials, before, after)
                self.assertEqual(told, (are_feasible(potentials, distances), value))

    def test_each_pair_of_slots(self):
        weights = [[1, 0, 0], [0, 1, 0], [0, 0, 1], [1, 2, 1]]
        calls = build(3, ROW, weights)
        for k in range(4):
            for l in range(4):
                with self.subTest(k=k, l=l):
                    answer = last_answer(*calls, check_potentials(k, l, [1, -1, 2]))
                    self.assertEqual(told_of(answer), (True, value_of([1, -1, 2], weights[k], weights[l])))

    def test_lowest_and_highest(self):
        for n in range(1, 7):
            calls = build(n, {(i, i + 1): 9 for i in range(n - 1)}, [[1] + [0] * (n - 1), [0] * (n - 1) + [1]])
            for potentials, code in [
                ([999] * n, [1, 0, 1]),
                ([-999] * n, [1, 0, 1]),
                ([1000] + [999] * (n - 1), [-22]),
                ([999] * (n - 1) + [1000], [-22]),
                ([-1000] + [-999] * (n - 1), [-22]),
                ([-999] * (n - 1) + [-1000], [-22]),
                ([HIGHEST] * n, [-22]),
                ([LOWEST] * n, [-22]),
            ]:
                with self.subTest(n=n, potentials=potentials):
                    self.assertEqual(last_answer(*calls, check_potentials(0, 1, potentials)), code)

    def test_from_lowest_to_highest(self):
        calls = build(2, {(0, 1): 9}, [[1, 0], [0, 1]])
        given = ask(*calls, check_potentials(0, 1, [-999, 999]), check_potentials(0, 1, [999, -999]),
                    check_potentials(1, 1, [999, -999]))
        self.assertEqual(given[len(calls):], [[0, 1998, 1], [0, -1998, 1], [0, 0, 1]])

    def test_wrong_length(self):
        for n in range(1, 7):
            calls = build(n, {(i, i + 1): 1 for i in range(n - 1)})
            for length in list(range(8)) + [36, 70]:
                with self.subTest(n=n, length=length):
                    answer = last_answer(*calls, check_potentials(0, 1, [0] * length))
                    self.assertEqual(answer, [1, 0, 1] if length == n else [-22])

    def test_one_point(self):
        for number, answer in ((0, [1, 0, 1]), (-999, [1, 0, 1]), (999, [1, 0, 1]), (1000, [-22])):
            with self.subTest(number=number):
                calls = build(1, {}, [[3], [20]])
                self.assertEqual(last_answer(*calls, check_potentials(0, 1, [number])), answer)


class Refusals(unittest.TestCase):
    def test_no_such_slot(self):
        for edges in (ROW, {}):
            for slot in NO_SLOTS:
                for k, l in ((slot, 0), (0, slot), (slot, slot), (3, slot)):
                    for call in (optimal_potentials(k, l), check_potentials(k, l, [0, 0, 0]),
                                 check_potentials(k, l, []), check_potentials(k, l, [1000, 0, 0])):
                        with self.subTest(edges=edges, call=call):
                            self.assertEqual(last_answer(*build(3, edges), call), [-2])

    def test_malformed_ahead_of_not_connected(self):
        for potentials in ([], [0, 0], [0, 0, 0, 0], [0, 1000, 0], [-1000, 0, 0], [0] * 70):
            with self.subTest(potentials=potentials):
                self.assertEqual(last_answer(create(3), check_potentials(0, 1, potentials)), [-22])

    def test_not_connected(self):
        for name, (n, edges) in NOT_CONNECTED.items():
            for k, l in ((0, 0), (0, 1), (3, 2)):
                for call in (optimal_potentials(k, l), check_potentials(k, l, [0] * n)):
                    with self.subTest(name, call=call):
                        calls = build(n, edges, [[1] + [0] * (n - 1), [2] + [0] * (n - 1)])
                        self.assertEqual(last_answer(*calls, call), [-33])


if __name__ == "__main__":
    unittest.main()
