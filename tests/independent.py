"""Distances, costs and plans found by going through all there are."""

from fractions import Fraction
from itertools import combinations
from itertools import permutations
from math import lcm


def shares(weights):
    return [Fraction(weight) / sum(weights) for weight in weights]


def length_of(edges, i, j):
    return edges.get((i, j), 0) or edges.get((j, i), 0)


def distance_by_trial(n, edges, start, end):
    """The shortest of all ways that pass no point twice; None if there is none."""
    if start == end:
        return 0
    others = [point for point in range(n) if point not in (start, end)]
    found = []
    for count in range(len(others) + 1):
        for between in permutations(others, count):
            way = (start,) + between + (end,)
            steps = [length_of(edges, i, j) for i, j in zip(way, way[1:])]
            if all(steps):
                found.append(sum(steps))
    return min(found, default=None)


def distances_by_trial(n, edges):
    return [[distance_by_trial(n, edges, i, j) for j in range(n)] for i in range(n)]


def rows_within(amount, room):
    """All ways to put `amount` into places with so much room each."""
    if len(room) == 1:
        if amount <= room[0]:
            yield (amount,)
        return
    for first in range(min(amount, room[0]) + 1):
        for rest in rows_within(amount - first, room[1:]):
            yield (first,) + rest


def all_plans(supplies, demands):
    """All matrices of whole numbers from 0 with these sums of rows and columns."""
    if not supplies:
        if not any(demands):
            yield ()
        return
    for row in rows_within(supplies[0], demands):
        left = tuple(room - amount for room, amount in zip(demands, row))
        for rest in all_plans(supplies[1:], left):
            yield (row,) + rest


def plan_cost(plan, distances):
    return sum(p * d for row, ways in zip(plan, distances) for p, d in zip(row, ways))


def best_plan(plans, distances):
    """The lowest cost, and of its plans the lexicographically greatest one."""
    best = None
    for plan in plans:
        cost = plan_cost(plan, distances)
        if best is None or cost < best[0] or cost == best[0] and plan > best[1]:
            best = (cost, plan)
    return best


def best_by_units(first, second, distances):
    """By all plans of the common denominator: a best one is always among them."""
    units = lcm(sum(first), sum(second))
    supplies = tuple(weight * units // sum(first) for weight in first)
    demands = tuple(weight * units // sum(second) for weight in second)
    cost, plan = best_plan(all_plans(supplies, demands), distances)
    return Fraction(cost, units), [[Fraction(p, units) for p in row] for row in plan]


def corner_plan(cells, rows, columns):
    """The one matrix with these sums that is 0 outside of cells without a cycle."""
    plan = [[Fraction(0)] * len(columns) for row in rows]
    rows, columns, cells = list(rows), list(columns), list(cells)
    while cells:
        for i, j in cells:
            if sum(1 for cell in cells if cell[0] == i) == 1:
                amount = rows[i]
                break
            if sum(1 for cell in cells if cell[1] == j) == 1:
                amount = columns[j]
                break
        else:
            return None
        plan[i][j] = amount
        rows[i] -= amount
        columns[j] -= amount
        cells.remove((i, j))
        if amount < 0:
            return None
    return None if any(rows) or any(columns) else plan


def best_by_corners(first, second, distances):
    """By all plans that are no mean of two others: a best one is always among them."""
    n = len(first)
    rows, columns = shares(first), shares(second)
    everywhere = [(i, j) for i in range(n) for j in range(n)]
    plans = [corner_plan(cells, rows, columns) for cells in combinations(everywhere, 2 * n - 1)]
    return best_plan([plan for plan in plans if plan], distances)


def all_prices(distances):
    """All whole prices that start with 0 and differ by no more than the distance."""
    n = len(distances)

    def continued(prices):
        if len(prices) == n:
            yield prices
            return
        here = len(prices)
        lowest = max(prices[i] - distances[i][here] for i in range(here))
        highest = min(prices[i] + distances[i][here] for i in range(here))
        for price in range(lowest, highest + 1):
            yield from continued(prices + (price,))

    return continued((0,))


def value_of(prices, first, second):
    return sum(f * (b - a) for f, a, b in zip(prices, shares(first), shares(second)))


def cost_by_prices(first, second, distances):
    """The lowest cost as the greatest value of all prices."""
    return max(value_of(prices, first, second) for prices in all_prices(distances))


def best_prices(first, second, distances):
    """The greatest value, and of its prices those that are greatest everywhere."""
    valued = [(value_of(prices, first, second), prices) for prices in all_prices(distances)]
    value = max(valued)[0]
    best = [prices for found, prices in valued if found == value]
    greatest = tuple(max(column) for column in zip(*best))
    if greatest not in best:
        raise AssertionError("no prices are greatest everywhere")
    return value, list(greatest)


def are_feasible(prices, distances):
    n = len(prices)
    return all(prices[j] - prices[i] <= distances[i][j] for i in range(n) for j in range(n))


def are_margins(plan, first, second):
    rows = [sum(row) for row in plan]
    columns = [sum(column) for column in zip(*plan)]
    return rows == shares(first) and columns == shares(second)


def composition(plan, onward, middle):
    n = len(middle)
    return [[sum(plan[i][j] * onward[j][k] / middle[j] for j in range(n) if middle[j] > 0)
             for k in range(n)] for i in range(n)]


def mapped(probabilities, targets):
    return [sum((p for p, target in zip(probabilities, targets) if target == point), Fraction(0))
            for point in range(len(probabilities))]


def mean(first, second):
    return [(p + q) / 2 for p, q in zip(first, second)]
