"""The calls on an instance: each takes its arguments in one list and answers a list."""

from earthheaps.graph import all_connected
from earthheaps.graph import all_distances
from earthheaps.plans import common_units
from earthheaps.plans import greatest_cheapest_plan
from earthheaps.plans import plan_cost
from earthheaps.plans import some_cheapest_plan
from earthheaps.ratios import lowest_terms
from earthheaps.refusals import Malformed
from earthheaps.refusals import Missing
from earthheaps.refusals import NoInstance
from earthheaps.refusals import NoPath

MOST_POINTS = 6
LONGEST_EDGE = 9
SLOTS = 4
GREATEST_WEIGHT = 20


class Instance:
    def __init__(self, points):
        self.points = points
        self.lengths = [[0] * points for row in range(points)]
        self.slots = [[1] + [0] * (points - 1) for slot in range(SLOTS)]


def create(arguments):
    points = arguments[0]
    if not 1 <= points <= MOST_POINTS:
        raise Malformed()
    return Instance(points)


def set_edge(instance, arguments):
    i = arguments[0]
    j = arguments[1]
    length = arguments[2]
    require_points(instance, [i, j])
    if i == j or not 0 <= length <= LONGEST_EDGE:
        raise Malformed()
    old_length = instance.lengths[i][j]
    instance.lengths[i][j] = length
    instance.lengths[j][i] = length
    return [old_length]


def set_distribution(instance, arguments):
    k = arguments[0]
    weights = arguments[1]
    require_slots([k])
    if len(weights) != instance.points or sum(weights) == 0:
        raise Malformed()
    if min(weights) < 0 or max(weights) > GREATEST_WEIGHT:
        raise Malformed()
    instance.slots[k] = list(weights)
    return [0]


def distribution(instance, arguments):
    require_slots(arguments)
    weights = instance.slots[arguments[0]]
    return [instance.points] + as_fractions(weights, sum(weights))


def distance(instance, arguments):
    require_points(instance, arguments)
    found = all_distances(instance.lengths)[arguments[0]][arguments[1]]
    if found is None:
        raise NoPath()
    return [found]


def min_cost(instance, arguments):
    require_slots(arguments)
    distances = connected_distances(instance)
    first = instance.slots[arguments[0]]
    second = instance.slots[arguments[1]]
    plan = some_cheapest_plan(first, second, distances)
    return [0] + lowest_terms(plan_cost(plan, distances), common_units(first, second))


def optimal_plan(instance, arguments):
    require_slots(arguments)
    distances = connected_distances(instance)
    first = instance.slots[arguments[0]]
    second = instance.slots[arguments[1]]
    plan = greatest_cheapest_plan(first, second, distances)
    units = common_units(first, second)
    answer = [instance.points * instance.points]
    for row in plan:
        answer.extend(as_fractions(row, units))
    answer.extend(lowest_terms(plan_cost(plan, distances), units))
    return answer


def require_points(instance, points):
    for point in points:
        if not 0 <= point < instance.points:
            raise Missing()


def require_slots(slots):
    for slot in slots:
        if not 0 <= slot < SLOTS:
            raise Missing()


def connected_distances(instance):
    distances = all_distances(instance.lengths)
    if not all_connected(distances):
        raise NoPath()
    return distances


def as_fractions(amounts, units):
    fractions = []
    for amount in amounts:
        fractions.extend(lowest_terms(amount, units))
    return fractions


# By a call's number; create is not here, as it alone needs no instance.
OPERATIONS = {
    1: set_edge,
    2: set_distribution,
    3: distribution,
    4: distance,
    5: min_cost,
    6: optimal_plan,
}


def perform(instance, number, arguments):
    if instance is None:
        raise NoInstance()
    return OPERATIONS[number](instance, arguments)
