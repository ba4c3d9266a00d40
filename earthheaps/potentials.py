"""Potentials: a price at each point, which must not rise by more than the distance."""

from earthheaps.distributions import common_units
from earthheaps.distributions import in_units
from earthheaps.graph import shortest_ways
from earthheaps.plans import some_cheapest_plan
from earthheaps.ratios import lowest_terms


def greatest_best_potentials(first, second, distances):
    # Feasible potentials have the greatest value just where they rise by the whole
    # distance along all that a plan with the lowest cost carries.
    rises = [list(row) for row in distances]
    for row, amounts in enumerate(some_cheapest_plan(first, second, distances)):
        for column, amount in enumerate(amounts):
            if amount > 0:
                rises[column][row] = -distances[row][column]
    # From point 0, where the price is 0, no price can rise beyond the shortest way.
    return shortest_ways(rises)[0]


def are_feasible(potentials, distances):
    for start, ways in enumerate(distances):
        for end, way in enumerate(ways):
            if potentials[end] - potentials[start] > way:
                return False
    return True


def value_of_potentials(potentials, first, second):
    units = common_units(first, second)
    before = in_units(first, units)
    after = in_units(second, units)
    value = 0
    for point, potential in enumerate(potentials):
        value += potential * (after[point] - before[point])
    return lowest_terms(value, units)
