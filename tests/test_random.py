"""Random requests against the plain implementation of all calls in reference.py."""

import unittest
from random import Random

from tests.cases import NO_SLOTS, heavy
from tests.reference import Reference
from tests.support import (HIGHEST, as_whole, ask, average, check_plan, check_potentials, compose_plans,
                           create, distance, distribution, is_connected, map_distribution, min_cost,
                           optimal_plan, optimal_potentials, set_distribution, set_edge)

ODD_NUMBERS = NO_SLOTS + [-1000, -999, 999, 1000, 6, 7, 10, 21]


class Maker:
    """Makes calls: most are well-formed on n points, some are wrong in one place or two."""

    def __init__(self, random, n):
        self.random = random
        self.n = n

    def odd(self, number):
        return self.random.choice(ODD_NUMBERS) if self.random.random() < 0.03 else number

    def slot(self):
        return self.odd(self.random.randrange(4))

    def point(self):
        return self.odd(self.random.randrange(self.n))

    def row(self, numbers):
        numbers = [self.odd(number) for number in numbers]
        chance = self.random.random()
        if chance < 0.02:
            return numbers[1:]
        return numbers + numbers[:1] if chance > 0.98 else numbers

    def edge(self):
        return set_edge(self.point(), self.point(), self.odd(self.random.choice([0, 1, 1, 2, 3, 9])))

    def weights(self):
        return set_distribution(self.slot(), self.row(heavy(self.random, self.n)))

    def plan(self, reference):
        """Often the product of both distributions, which is a plan."""
        k, l = self.slot(), self.slot()
        if self.random.random() < 0.3 or not reference.n or reference.no_slot(k, l):
            numbers = [self.random.randrange(-1, 4) for _ in range(self.n ** 2)]
            return check_plan(k, l, self.odd(self.random.randrange(1, 9)), self.row(numbers))
        plan = [[p * q for q in reference.slots[l]] for p in reference.slots[k]]
        units, numbers = as_whole(plan)
        times = self.random.randint(1, 3)
        numbers = [number * times for number in numbers]
        if max(numbers) > HIGHEST or units * times > HIGHEST:
            return is_connected()
        return check_plan(k, l, self.odd(units * times), self.row(numbers))

    def prices(self):
        most = self.random.choice([0, 2, 4, 30, 999])
        numbers = [self.random.randint(-most, most) for _ in range(self.n)]
        return check_potentials(self.slot(), self.slot(), self.row(numbers))

    def targets(self):
        return map_distribution(self.slot(), self.slot(), self.row([self.point() for _ in range(self.n)]))

    def simple(self, reference):
        return self.random.choice([
            self.edge, self.edge, self.weights, self.targets, self.prices, is_connected,
            lambda: self.plan(reference),
            lambda: distribution(self.slot()),
            lambda: distance(self.point(), self.point()),
            lambda: average(self.slot(), self.slot(), self.slot()),
            lambda: average(self.slot(), self.slot(), self.slot()),
        ])()

    def best(self):
        return self.random.choice([
            lambda: min_cost(self.slot(), self.slot()),
            lambda: optimal_plan(self.slot(), self.slot()),
            lambda: optimal_potentials(self.slot(), self.slot()),
            lambda: compose_plans(self.slot(), self.slot(), self.slot()),
        ])()

    def start(self):
        calls = [create(self.n)] if self.random.random() < 0.95 else []
        calls += [self.edge() for _ in range(self.n)]
        return calls + [self.weights() for _ in range(self.random.randrange(5))]


class RandomRequests(unittest.TestCase):
    def check(self, seed, n, share_of_best):
        """One request: each call is made knowing what the reference has by then."""
        random = Random(seed)
        maker, reference = Maker(random, n), Reference()
        calls, expected = [], []
        for place in range(60):
            start = maker.start() if place == 0 else []
            if random.random() < 0.01:
                start = [create(maker.odd(n))]
            for call in start or [maker.best() if random.random() < share_of_best else maker.simple(reference)]:
                # Another number of points would need other plans and lists.
                if call[0] != 0 or call[1] == n or call[1] not in range(1, 7):
                    calls.append(call)
                    expected.append(reference.answer(call))
        given = ask(*calls[:60])
        for call, answer, right in zip(calls, given, expected):
            with self.subTest(seed=seed, n=n, call=call):
                self.assertEqual(answer, right)
        return [answer[0] for answer in given]

    def test_up_to_three_points_with_all_calls(self):
        for seed in range(90):
            self.check(seed, 1 + seed % 3, 0.4)

    def test_up_to_six_points_without_best_ones(self):
        firsts = [first for seed in range(120) for first in self.check(seed, 1 + seed % 6, 0)]
        # All the refusals are met with.
        self.assertEqual({first for first in firsts if first < 0}, {-2, -11, -22, -33, -75})


if __name__ == "__main__":
    unittest.main()
