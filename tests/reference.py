"""All calls once more, plainly and with fractions; plans and prices are found by trial."""

from fractions import Fraction

from tests.independent import (are_feasible, are_margins, best_by_corners, best_prices, composition,
                               distances_by_trial, mapped, mean, plan_cost, shares, value_of)


def pair(fraction):
    return [Fraction(fraction).numerator, Fraction(fraction).denominator]


def pairs(fractions):
    return [number for fraction in fractions for number in pair(fraction)]


def plan_answer(plan, cost):
    entries = [p for row in plan for p in row]
    return [len(entries)] + pairs(entries) + pair(cost)


class Reference:
    def __init__(self):
        self.n = 0
        self.edges = {}
        self.slots = []

    def answer(self, call):
        calls = [self.create, self.set_edge, self.set_distribution, self.distribution, self.distance,
                 self.min_cost, self.optimal_plan, self.optimal_potentials, self.check_plan,
                 self.check_potentials, self.compose_plans, self.map_distribution, self.average,
                 self.is_connected]
        if call[0] > 0 and not self.n:
            return [-11]
        if call[0] in (2, 11):
            at = 2 if call[0] == 2 else 3
            return calls[call[0]](*call[1:at], call[at + 1:])
        if call[0] in (8, 9):
            at = 4 if call[0] == 8 else 3
            return calls[call[0]](*call[1:at], call[at + 1:])
        return calls[call[0]](*call[1:])

    def no_slot(self, *slots):
        return any(slot not in range(4) for slot in slots)

    def no_point(self, *points):
        return any(point not in range(self.n) for point in points)

    def distances(self):
        return distances_by_trial(self.n, self.edges)

    def cut(self):
        return None in [d for row in self.distances() for d in row]

    def create(self, n):
        if n not in range(1, 7):
            return [-22]
        self.n = n
        self.edges = {}
        self.slots = [[Fraction(int(point == 0)) for point in range(n)] for slot in range(4)]
        return [0]

    def set_edge(self, i, j, length):
        if self.no_point(i, j):
            return [-2]
        if i == j or length not in range(10):
            return [-22]
        ends = (min(i, j), max(i, j))
        old = self.edges.get(ends, 0)
        self.edges[ends] = length
        return [old]

    def set_distribution(self, k, weights):
        if self.no_slot(k):
            return [-2]
        if len(weights) != self.n or any(w not in range(21) for w in weights) or not any(weights):
            return [-22]
        self.slots[k] = shares(weights)
        return [0]

    def distribution(self, k):
        return [-2] if self.no_slot(k) else [self.n] + pairs(self.slots[k])

    def distance(self, i, j):
        if self.no_point(i, j):
            return [-2]
        found = self.distances()[i][j]
        return [-33] if found is None else [found]

    def best(self, k, l):
        return best_by_corners(self.slots[k], self.slots[l], self.distances())

    def min_cost(self, k, l):
        if self.no_slot(k, l):
            return [-2]
        return [-33] if self.cut() else [0] + pair(self.best(k, l)[0])

    def optimal_plan(self, k, l):
        if self.no_slot(k, l):
            return [-2]
        if self.cut():
            return [-33]
        cost, plan = self.best(k, l)
        return plan_answer(plan, cost)

    def optimal_potentials(self, k, l):
        if self.no_slot(k, l):
            return [-2]
        if self.cut():
            return [-33]
        value, prices = best_prices(self.slots[k], self.slots[l], self.distances())
        return [self.n] + prices + pair(value)

    def check_plan(self, k, l, denominator, entries):
        if self.no_slot(k, l):
            return [-2]
        if denominator < 1 or len(entries) != self.n ** 2:
            return [-22]
        if self.cut():
            return [-33]
        plan = [[Fraction(entries[self.n * i + j], denominator) for j in range(self.n)]
                for i in range(self.n)]
        if min(entries) < 0 or not are_margins(plan, self.slots[k], self.slots[l]):
            return [0]
        return [1] + pair(plan_cost(plan, self.distances()))

    def check_potentials(self, k, l, potentials):
        if self.no_slot(k, l):
            return [-2]
        if len(potentials) != self.n or any(f not in range(-999, 1000) for f in potentials):
            return [-22]
        if self.cut():
            return [-33]
        feasible = int(are_feasible(potentials, self.distances()))
        return [feasible] + pair(value_of(potentials, self.slots[k], self.slots[l]))

    def compose_plans(self, k, l, m):
        if self.no_slot(k, l, m):
            return [-2]
        if self.cut():
            return [-33]
        plan = composition(self.best(k, l)[1], self.best(l, m)[1], self.slots[l])
        return plan_answer(plan, plan_cost(plan, self.distances()))

    def map_distribution(self, k, m, targets):
        if self.no_slot(k, m):
            return [-2]
        if len(targets) != self.n or self.no_point(*targets):
            return [-22]
        self.slots[m] = mapped(self.slots[k], targets)
        return [0]

    def average(self, k, l, m):
        if self.no_slot(k, l, m):
            return [-2]
        both = mean(self.slots[k], self.slots[l])
        if any(p.denominator > 100000 for p in both):
            return [-75]
        self.slots[m] = both
        return [0]

    def is_connected(self):
        return [0 if self.cut() else 1]
