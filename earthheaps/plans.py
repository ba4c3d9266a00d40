"""Plans between two distributions, with their entries as numbers of common units."""

from earthheaps.flows import raise_entry
from earthheaps.ratios import least_multiple


# A distribution is a list of weights: the fewest units that divide both evenly.
def common_units(first, second):
    return least_multiple(sum(first), sum(second))


def in_units(weights, units):
    share = units // sum(weights)
    return [weight * share for weight in weights]


def some_cheapest_plan(first, second, distances):
    # A row and a column more are a store, where all earth goes through at first.
    # It pays to raise the store's own entry, whatever the way round costs: so all
    # the earth comes to be carried directly, each part of it as cheaply as can be.
    size = len(distances)
    units = common_units(first, second)
    supplies = in_units(first, units)
    flow = [[0] * size + [supplies[row]] for row in range(size)]
    flow.append(in_units(second, units) + [0])
    gain = 1 + sum([sum(row) for row in distances])
    costs = [row + [0] for row in distances]
    costs.append([0] * size + [-gain])
    free = all_free(size + 1)
    free[size][size] = False
    raise_entry(flow, costs, free, size, size)
    return [row[:size] for row in flow[:size]]


def greatest_cheapest_plan(first, second, distances):
    size = len(distances)
    plan = some_cheapest_plan(first, second, distances)
    free = all_free(size)
    for row in range(size):
        for column in range(size):
            # What has been raised stays as it is when later entries are raised.
            free[row][column] = False
            raise_entry(plan, distances, free, row, column)
    return plan


def all_free(size):
    return [[True] * size for row in range(size)]


def plan_cost(plan, distances):
    total = 0
    for row, amounts in enumerate(plan):
        for column, amount in enumerate(amounts):
            total += amount * distances[row][column]
    return total
