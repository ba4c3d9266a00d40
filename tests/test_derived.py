"""map_distribution and average, which make distributions of others."""

import unittest
from itertools import product
from math import lcm
from random import Random

from earthheaps.operations import Instance, average as average_of, distribution as distribution_of
from earthheaps.refusals import TooLarge
from tests.cases import NO_SLOTS, derived_requests, heavy
from tests.independent import mapped, mean, shares
from tests.support import (HIGHEST, LOWEST, ask, average, build, create, distribution, last_answer,
                           map_distribution, set_distribution, shares_of, state_calls)

ALL_SLOTS = [distribution(k) for k in range(4)]
WEIGHTS = [[1, 2, 3], [3, 1, 0], [0, 0, 9], [4, 5, 4]]
MADE = build(3, {(0, 1): 3}, WEIGHTS)

# Their mean has small denominators, as no two of them are anywhere at the same point.
PAIRS = [[20, 17, 0, 0, 0, 0], [0, 0, 19, 20, 0, 0], [0, 0, 0, 0, 17, 14]]

# With 3 points.
MALFORMED = {
    "none": [],
    "one": [0],
    "too few": [0, 1],
    "too many": [0, 1, 2, 0],
    "70": [0] * 70,
    "70 of the highest": [HIGHEST] * 70,
    "first no point": [3, 0, 0],
    "middle no point": [0, 3, 0],
    "last no point": [0, 0, 3],
    "point where nothing is": [0, 1, 6],
    "first below 0": [-1, 0, 0],
    "last below 0": [0, 0, -1],
    "lowest": [0, LOWEST, 0],
    "highest": [HIGHEST, 0, 0],
    "all": [3, 3, 3],
    "all below 0": [-1, -2, -3],
}


def check_refused(test, call, code):
    expected = ask(*MADE, *state_calls(3))[len(MADE):]
    test.assertEqual(ask(*MADE, call, *state_calls(3))[len(MADE):], [code] + expected)


class MapDistribution(unittest.TestCase):
    def test_known_ones(self):
        cases = [
            ([0, 1, 2], [3, 1, 6, 1, 3, 1, 2]),
            ([0, 0, 0], [3, 1, 1, 0, 1, 0, 1]),
            ([2, 2, 2], [3, 0, 1, 0, 1, 1, 1]),
            ([1, 2, 0], [3, 1, 2, 1, 6, 1, 3]),
            ([2, 0, 1], [3, 1, 3, 1, 2, 1, 6]),
            ([0, 0, 2], [3, 1, 2, 0, 1, 1, 2]),
            ([1, 0, 1], [3, 1, 3, 2, 3, 0, 1]),
        ]
        for targets, answer in cases:
            with self.subTest(targets=targets):
                given = ask(*MADE, map_distribution(0, 1, targets), distribution(1), distribution(0))
                self.assertEqual(given[-3:], [[0], answer, [3, 1, 6, 1, 3, 1, 2]])

    def test_all_targets_of_all_pairs_of_slots(self):
        for targets in product(range(3), repeat=3):
            for k in range(4):
                for m in range(4):
                    with self.subTest(targets=targets, k=k, m=m):
                        given = ask(*MADE, map_distribution(k, m, list(targets)), *ALL_SLOTS)[len(MADE):]
                        slots = [shares(weights) for weights in WEIGHTS]
                        slots[m] = mapped(slots[k], targets)
                        self.assertEqual(given[0], [0])
                        self.assertEqual([shares_of(answer, 3) for answer in given[1:]], slots)

    def test_every_size(self):
        random = Random(8)
        for n in range(1, 7):
            for _ in range(20):
                weights, targets = heavy(random, n), [random.randrange(n) for _ in range(n)]
                with self.subTest(weights=weights, targets=targets):
                    given = ask(create(n), set_distribution(2, weights), map_distribution(2, 3, targets),
                                distribution(3), distribution(2))
                    self.assertEqual(given[2], [0])
                    self.assertEqual(shares_of(given[3], n), mapped(shares(weights), targets))
                    self.assertEqual(shares_of(given[4], n), shares(weights))

    def test_same_slot_again_and_again(self):
        given = ask(*MADE, *[map_distribution(0, 0, [1, 2, 0]), distribution(0)] * 3)[len(MADE):]
        self.assertEqual(given, [[0], [3, 1, 2, 1, 6, 1, 3], [0], [3, 1, 3, 1, 2, 1, 6],
                                 [0], [3, 1, 6, 1, 3, 1, 2]])

    def test_two_slots_are_not_one(self):
        # The second slot does not follow the first one when that is replaced.
        given = ask(*MADE, map_distribution(0, 1, [0, 1, 2]), map_distribution(0, 0, [0, 0, 0]),
                    distribution(1), set_distribution(1, [1, 1, 0]), distribution(0))
        self.assertEqual(given[len(MADE) + 2:], [[3, 1, 6, 1, 3, 1, 2], [0], [3, 1, 1, 0, 1, 0, 1]])

    def test_edges_do_not_matter(self):
        for edges in ({}, {(0, 1): 1, (1, 2): 1}):
            with self.subTest(edges=edges):
                given = ask(*build(3, edges), map_distribution(0, 3, [2, 0, 0]), distribution(3))
                self.assertEqual(given[-2:], [[0], [3, 0, 1, 0, 1, 1, 1]])

    def test_one_point(self):
        for target in (0, 1, -1, LOWEST, HIGHEST):
            with self.subTest(target=target):
                given = ask(create(1), map_distribution(0, 3, [target]), distribution(3))
                self.assertEqual(given[1:], [[0] if target == 0 else [-22], [1, 1, 1]])

    def test_large_denominators_are_not_refused(self):
        calls = build(6, {}, PAIRS) + [average(0, 1, 3), average(3, 2, 3)]
        expected = mapped(mean(mean(*map(shares, PAIRS[:2])), shares(PAIRS[2])), [0, 1, 0, 1, 0, 1])
        self.assertEqual(expected[0].denominator, 178932)
        given = ask(*calls, map_distribution(3, 1, [0, 1, 0, 1, 0, 1]), distribution(1), average(1, 1, 1),
                    average(1, 1, 2), distribution(1), distribution(2))[len(calls):]
        self.assertEqual(given[0], [0])
        self.assertEqual(shares_of(given[1], 6), expected)
        # To refuse it is for average alone, though nothing would change in slot 1.
        self.assertEqual(given[2:5], [[-75], [-75], given[1]])
        self.assertEqual(shares_of(given[5], 6), shares(PAIRS[2]))

    def test_no_such_slot(self):
        for slot in NO_SLOTS:
            for k, m in ((slot, 0), (0, slot), (slot, slot), (3, slot)):
                with self.subTest(k=k, m=m):
                    check_refused(self, map_distribution(k, m, [0, 1, 2]), [-2])

    def test_malformed(self):
        for name, targets in MALFORMED.items():
            for k, m in ((0, 1), (2, 2), (3, 0)):
                with self.subTest(name, k=k, m=m):
                    check_refused(self, map_distribution(k, m, targets), [-22])

    def test_slot_ahead_of_malformed(self):
        for name, targets in MALFORMED.items():
            for slot in NO_SLOTS:
                for k, m in ((slot, 0), (0, slot), (slot, slot)):
                    with self.subTest(name, k=k, m=m):
                        self.assertEqual(last_answer(create(3), map_distribution(k, m, targets)), [-2])

    def test_wrong_length(self):
        for n in range(1, 7):
            for length in list(range(8)) + [36, 70]:
                with self.subTest(n=n, length=length):
                    answer = last_answer(create(n), map_distribution(0, 1, [0] * length))
                    self.assertEqual(answer, [0] if length == n else [-22])


class Average(unittest.TestCase):
    def test_known_ones(self):
        cases = [
            ([1, 1, 0], [0, 1, 1], [3, 1, 4, 1, 2, 1, 4]),
            ([1, 0, 0], [0, 0, 1], [3, 1, 2, 0, 1, 1, 2]),
            ([1, 2, 3], [1, 2, 3], [3, 1, 6, 1, 3, 1, 2]),
            ([1, 2, 3], [20, 0, 0], [3, 7, 12, 1, 6, 1, 4]),
            # It is the mean of the probabilities, whatever the weights are.
            ([20, 0, 0], [1, 2, 3], [3, 7, 12, 1, 6, 1, 4]),
            ([2, 1, 0], [1, 2, 0], [3, 1, 2, 1, 2, 0, 1]),
            ([1, 0, 2], [4, 1, 0], [3, 17, 30, 1, 10, 1, 3]),
        ]
        for first, second, answer in cases:
            with self.subTest(first=first, second=second):
                calls = build(3, {}, [first, second])
                self.assertEqual(ask(*calls, average(0, 1, 2), distribution(2))[-2:], [[0], answer])

    def test_each_three_slots(self):
        for k in range(4):
            for l in range(4):
                for m in range(4):
                    with self.subTest(k=k, l=l, m=m):
                        given = ask(*MADE, average(k, l, m), *ALL_SLOTS)[len(MADE):]
                        slots = [shares(weights) for weights in WEIGHTS]
                        slots[m] = mean(slots[k], slots[l])
                        self.assertEqual(given[0], [0])
                        self.assertEqual([shares_of(answer, 3) for answer in given[1:]], slots)

    def test_every_size(self):
        random = Random(9)
        for n in range(1, 7):
            for _ in range(30):
                first, second = heavy(random, n), heavy(random, n)
                with self.subTest(first=first, second=second):
                    given = ask(*build(n, {}, [first, second]), average(0, 1, 3), distribution(3))
                    self.assertEqual(given[-2], [0])
                    self.assertEqual(shares_of(given[-1], n), mean(shares(first), shares(second)))

    def test_of_averages(self):
        random = Random(10)
        for case in range(60):
            n = 1 + case % 6
            calls, slots = derived_requests(random, n)
            with self.subTest(n=n, calls=calls):
                given = ask(create(n), *calls, *ALL_SLOTS)[-4:]
                self.assertEqual([shares_of(answer, n) for answer in given], slots)

    def test_two_slots_are_not_one(self):
        given = ask(*MADE, average(0, 0, 1), map_distribution(0, 0, [2, 2, 2]), distribution(1),
                    set_distribution(1, [1, 1, 1]), distribution(0))
        self.assertEqual(given[len(MADE) + 2:], [[3, 1, 6, 1, 3, 1, 2], [0], [3, 0, 1, 0, 1, 1, 1]])

    def test_one_point(self):
        for k, l, m in product(range(4), repeat=3):
            with self.subTest(k=k, l=l, m=m):
                self.assertEqual(ask(create(1), average(k, l, m), distribution(m)), [[0], [0], [1, 1, 1]])

    def test_no_such_slot(self):
        for slot in NO_SLOTS:
            for slots in ((slot, 0, 1), (0, slot, 1), (0, 1, slot), (slot, slot, slot), (3, slot, slot)):
                with self.subTest(slots=slots):
                    check_refused(self, average(*slots), [-2])


class LargestDenominator(unittest.TestCase):
    def test_powers_of_2(self):
        # Each mean with point 0 halves the rest: 1/65536 is the last one that is left.
        calls = build(2, {}, [[0, 1]]) + [average(0, 1, 0)] * 19 + ALL_SLOTS
        given = ask(*calls)
        self.assertEqual(given[2:21], [[0]] * 16 + [[-75]] * 3)
        self.assertEqual(given[21:], [[2, 65535, 65536, 1, 65536]] + [[2, 1, 1, 0, 1]] * 3)

    def test_powers_of_2_with_a_third(self):
        # 3 * 32768 is 98304, and twice that is too large; the third slot is kept as it was.
        calls = build(3, {}, [[1, 2, 0], [1, 0, 0], [0, 0, 7]]) + [average(0, 1, 0)] * 17
        calls += [average(0, 1, 2), average(1, 0, 3), average(0, 1, 1)]
        given = ask(*calls, *ALL_SLOTS)[4:]
        self.assertEqual(given[:20], [[0]] * 16 + [[-75]] * 4)
        self.assertEqual(given[20:], [[3, 98303, 98304, 1, 98304, 0, 1], [3, 1, 1, 0, 1, 0, 1],
                                      [3, 0, 1, 0, 1, 1, 1], [3, 1, 1, 0, 1, 0, 1]])

    def test_the_last_and_the_first_that_weights_lead_to(self):
        # A denominator of 100000 itself has 5 five times, and no sum of weights up to 120
        # has that: of those that come up 99990 is the last one below, 100005 the first above.
        cases = [
            ([14, 19, 16, 20, 12, 20], [20, 15, 16, 19, 9, 20], [0, 0, 6, 0, 4, 0], 99990, [0]),
            ([19, 20, 18, 18, 19, 19], [0, 16, 14, 19, 10, 0], [1, 2, 3, 5, 0, 4], 100005, [-75]),
            ([20, 17, 18, 18, 20, 20], [20, 18, 20, 20, 20, 20], [0, 4, 3, 2, 6, 0], 100005, [-75]),
        ]
        for first, second, third, denominator, code in cases:
            with self.subTest(first=first, second=second, third=third):
                calls = build(6, {}, [first, second, third]) + [average(0, 1, 0)]
                answer, kept = ask(*calls, average(0, 2, 3), distribution(3))[-2:]
                both = mean(mean(shares(first), shares(second)), shares(third))
                self.assertEqual(max(p.denominator for p in both), denominator)
                self.assertEqual(answer, code)
                expected = both if code == [0] else shares([1, 0, 0, 0, 0, 0])
                self.assertEqual(shares_of(kept, 6), expected)

    def test_100000_and_100001(self):
        # On the instance itself, as no list of calls leads to these.
        for sum_of_weights, refused in ((99999, False), (100000, False), (100001, True), (100002, True)):
            with self.subTest(sum_of_weights=sum_of_weights):
                instance = Instance(2)
                instance.slots[0] = [1, sum_of_weights - 1]
                kept = [list(weights) for weights in instance.slots]
                if refused:
                    self.assertRaises(TooLarge, average_of, instance, [0, 0, 3])
                    self.assertEqual(instance.slots, kept)
                else:
                    self.assertEqual(average_of(instance, [0, 0, 3]), [0])
                    self.assertEqual(distribution_of(instance, [3]),
                                     [2, 1, sum_of_weights, sum_of_weights - 1, sum_of_weights])

    def test_each_probability_counts_by_itself(self):
        calls = build(6, {}, PAIRS) + [average(0, 1, 3)]
        answer, found = ask(*calls, average(3, 2, 3), distribution(3))[-2:]
        self.assertEqual(answer, [0])
        probabilities = shares_of(found, 6)
        self.assertEqual([p.denominator for p in probabilities], [37, 148, 156, 39, 62, 31])
        self.assertEqual(lcm(*[p.denominator for p in probabilities]), 178932)

    def test_slot_ahead_of_the_denominator(self):
        calls = build(2, {}, [[0, 1]]) + [average(0, 1, 0)] * 16
        for slot in NO_SLOTS:
            with self.subTest(slot=slot):
                given = ask(*calls, average(0, 1, 0), average(0, 1, slot), average(slot, 0, 0))
                self.assertEqual(given[-3:], [[-75], [-2], [-2]])

    def test_code_is_told_alone_and_nothing_changes(self):
        calls = build(3, {(0, 1): 4, (1, 2): 1}, [[1, 2, 0]]) + [average(0, 1, 0)] * 16
        expected = ask(*calls, *state_calls(3))[len(calls):]
        for call in (average(0, 1, 0), average(0, 1, 1), average(1, 0, 3), average(0, 2, 2)):
            with self.subTest(call=call):
                given = ask(*calls, call, *state_calls(3))[len(calls):]
                self.assertEqual(given, [[-75]] + expected)


if __name__ == "__main__":
    unittest.main()
