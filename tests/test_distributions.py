import unittest
from fractions import Fraction

from tests.support import (HIGHEST, LOWEST, as_fractions, ask, build, create, distribution,
                           last_answer, set_distribution, state_calls)

NO_SLOTS = [LOWEST, LOWEST + 1, -4, -1, 4, 5, HIGHEST - 1, HIGHEST]

# With 3 points.
MALFORMED = {
    "none": [],
    "too few": [1, 1],
    "one": [1],
    "too many": [1, 1, 1, 1],
    "too many, the last one 0": [1, 1, 1, 0],
    "70": [1] * 70,
    "70 of the lowest": [LOWEST] * 70,
    "first below 0": [-1, 1, 1],
    "last below 0": [1, 1, -1],
    "below 0 with sum 0": [1, -1, 0],
    "above 20": [21, 1, 1],
    "last above 20": [0, 0, 21],
    "all 0": [0, 0, 0],
    "lowest": [1, LOWEST, 1],
    "highest": [1, HIGHEST, 1],
    "both ends": [LOWEST, HIGHEST, 1],
    "all below 0": [-1, -1, -1],
}


class SetDistribution(unittest.TestCase):
    def test_lowest_terms(self):
        cases = [
            ([1, 0, 0], [1, 1, 0, 1, 0, 1]),
            ([0, 20, 0], [0, 1, 1, 1, 0, 1]),
            ([20, 20, 20], [1, 3, 1, 3, 1, 3]),
            ([2, 4, 6], [1, 6, 1, 3, 1, 2]),
            ([6, 10, 15], [6, 31, 10, 31, 15, 31]),
            ([20, 19, 18], [20, 57, 1, 3, 6, 19]),
            ([5, 0, 15], [1, 4, 0, 1, 3, 4]),
        ]
        for weights, expected in cases:
            with self.subTest(weights=weights):
                given = ask(create(3), set_distribution(1, weights), distribution(1))
                self.assertEqual(given[1:], [[0], [3] + expected])

    def test_every_size_and_weight(self):
        for n in range(1, 7):
            for weight in range(21):
                weights = [20 - weight] + [weight] * (n - 1)
                if not any(weights):
                    continue
                with self.subTest(weights=weights):
                    given = ask(create(n), set_distribution(0, weights), distribution(0))
                    self.assertEqual(given[1], [0])
                    self.assertEqual(given[2][0], n)
                    expected = [Fraction(w, sum(weights)) for w in weights]
                    self.assertEqual(as_fractions(given[2][1:]), expected)

    def test_one_point(self):
        given = ask(create(1), set_distribution(3, [17]), distribution(3))
        self.assertEqual(given, [[0], [0], [1, 1, 1]])

    def test_each_slot_is_one_of_its_own(self):
        for k in range(4):
            with self.subTest(k=k):
                queries = [distribution(slot) for slot in range(4)]
                given = ask(create(2), *queries, set_distribution(k, [1, 3]), *queries)
                expected = [[2, 1, 1, 0, 1]] * 4
                self.assertEqual(given[1:5], expected)
                expected[k] = [2, 1, 4, 3, 4]
                self.assertEqual(given[5:], [[0]] + expected)

    def test_replaces(self):
        given = ask(create(2), set_distribution(2, [1, 3]), set_distribution(2, [0, 7]), distribution(2))
        self.assertEqual(given[3], [2, 0, 1, 1, 1])

    def test_no_such_slot(self):
        for k in NO_SLOTS:
            for weights in ([1, 1, 1], [0, 20, 0]):
                with self.subTest(k=k, weights=weights):
                    self.check_refused(set_distribution(k, weights), [-2])

    def test_malformed(self):
        for name, weights in MALFORMED.items():
            for k in range(4):
                with self.subTest(name, k=k):
                    self.check_refused(set_distribution(k, weights), [-22])

    def test_slot_ahead_of_malformed(self):
        for k in NO_SLOTS:
            for name, weights in MALFORMED.items():
                with self.subTest(name, k=k):
                    self.assertEqual(last_answer(create(3), set_distribution(k, weights)), [-2])

    def test_so_many_as_another_instance_has_points(self):
        given = ask(create(3), create(2), set_distribution(0, [1, 1, 1]), set_distribution(0, [1, 1]))
        self.assertEqual(given, [[0], [0], [-22], [0]])

    def check_refused(self, call, code):
        calls = build(3, {(0, 1): 3}, [[1, 2, 3], [3, 1, 0], [0, 0, 9], [4, 4, 4]])
        expected = ask(*calls, *state_calls(3))[len(calls):]
        self.assertEqual(ask(*calls, call, *state_calls(3))[len(calls):], [code] + expected)


class Distribution(unittest.TestCase):
    def test_no_such_slot(self):
        for k in NO_SLOTS:
            with self.subTest(k=k):
                self.assertEqual(last_answer(create(3), distribution(k)), [-2])

    def test_leaves_the_instance(self):
        calls = build(3, {(0, 1): 3}, [[1, 2, 3], [3, 1, 0], [0, 0, 9], [4, 4, 4]])
        expected = ask(*calls, *state_calls(3))[len(calls):]
        for k in (0, 3, 4, LOWEST):
            with self.subTest(k=k):
                given = ask(*calls, distribution(k), *state_calls(3))[len(calls) + 1:]
                self.assertEqual(given, expected)


if __name__ == "__main__":
    unittest.main()
