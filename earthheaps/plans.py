"""Plans between two distributions, with their entries as numbers of common units."""

from earthheaps.distributions import common_units
from earthheaps.distributions import in_units
from earthheaps.flows import raise_entry
from earthheaps.ratios import least_multiple


def some_cheapest_plan(first, second, distances):
    # A row and a column more are a store, where all earth goes through at first.
    # It pays to raise the store's own entry, whatever the way round costs: so all
    # the earth comes to be carried directly, each part of it as cheaply as can be.
    size = len(distances)
    units = common_units(first, second)
    supplies = in_units(first, units)
    flow = [[0] * size + [supplies[row]] for row in range(size)]
    flow.append(in_units(second, units) + [0])
    gain = 1 + sum([sum(row) for row in distances])
    costs = [row + [0] for row in distances]
    costs.append([0] * size + [-gain])
    free = all_free(size + 1)
    free[size][size] = False
    raise_entry(flow, costs, free, size, size)
    return [row[:size] for row in flow[:size]]


def greatest_cheapest_plan(first, second, distances):
    size = len(distances)
    plan = some_cheapest_plan(first, second, distances)
    free = all_free(size)
    for row in range(size):
        for column in range(size):
            # What has been raised stays as it is when later entries are raised.
            free[row][column] = False
            raise_entry(plan, distances, free, row, column)
    return plan


def all_free(size):
    return [[True] * size for row in range(size)]


# What arrives at a point in between goes on from there as the second plan tells.
def composed_plan(first_plan, second_plan, weights):
    size = len(weights)
    parts = inverse_parts(weights)
    plan = [[0] * size for row in range(size)]
    for row in range(size):
        for middle in range(size):
            arriving = first_plan[row][middle] * parts[middle]
            for column in range(size):
                plan[row][column] += arriving * second_plan[middle][column]
    return plan


# Whole numbers, so that the divided amounts are whole too. Through points with the
# weight 0 nothing goes.
def inverse_parts(weights):
    whole = 1
    for weight in weights:
        if weight > 0:
            whole = least_multiple(whole, weight)
    return [whole // weight if weight > 0 else 0 for weight in weights]


def is_plan(plan, units, first, second):
    if min([min(row) for row in plan]) < 0:
        return False
    rows = [sum(row) for row in plan]
    columns = [sum([row[column] for row in plan]) for column in range(len(plan))]
    return are_shares(rows, units, first) and are_shares(columns, units, second)


# Compared crosswise, as the units need not be divisible by the sum of the weights.
def are_shares(amounts, units, weights):
    whole = sum(weights)
    return [amount * whole for amount in amounts] == [weight * units for weight in weights]


# One whole distribution is carried, so this is also how many units make up 1.
def plan_units(plan):
    return sum([sum(row) for row in plan])


def plan_cost(plan, distances):
    total = 0
    for row, amounts in enumerate(plan):
        for column, amount in enumerate(amounts):
            total += amount * distances[row][column]
    return total
