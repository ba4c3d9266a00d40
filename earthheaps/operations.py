"""The calls on an instance: each takes its arguments in one list and answers a list."""

from earthheaps.distributions import mapped_weights
from earthheaps.distributions import mean_weights
from earthheaps.graph import all_connected
from earthheaps.graph import all_distances
from earthheaps.plans import composed_plan
from earthheaps.plans import greatest_cheapest_plan
from earthheaps.plans import is_plan
from earthheaps.plans import plan_cost
from earthheaps.plans import plan_units
from earthheaps.plans import some_cheapest_plan
from earthheaps.potentials import are_feasible
from earthheaps.potentials import greatest_best_potentials
from earthheaps.potentials import value_of_potentials
from earthheaps.ratios import lowest_terms
from earthheaps.refusals import Malformed
from earthheaps.refusals import Missing
from earthheaps.refusals import NoInstance
from earthheaps.refusals import NoPath
from earthheaps.refusals import TooLarge

MOST_POINTS = 6
LONGEST_EDGE = 9
SLOTS = 4
GREATEST_WEIGHT = 20
GREATEST_POTENTIAL = 999
GREATEST_DENOMINATOR = 100000


class Instance:
    def __init__(self, points):
        self.points = points
        self.lengths = [[0] * points for row in range(points)]
        self.slots = [[1] + [0] * (points - 1) for slot in range(SLOTS)]


def create(arguments):
    points = arguments[0]
    if not 1 <= points <= MOST_POINTS:
        raise Malformed()
    return Instance(points)


def set_edge(instance, arguments):
    i = arguments[0]
    j = arguments[1]
    length = arguments[2]
    require_points(instance, [i, j])
    if i == j or not 0 <= length <= LONGEST_EDGE:
        raise Malformed()
    old_length = instance.lengths[i][j]
    instance.lengths[i][j] = length
    instance.lengths[j][i] = length
    return [old_length]


def set_distribution(instance, arguments):
    k = arguments[0]
    weights = arguments[1]
    require_slots([k])
    require_each(instance, weights, 0, GREATEST_WEIGHT)
    if sum(weights) == 0:
        raise Malformed()
    instance.slots[k] = list(weights)
    return [0]


def distribution(instance, arguments):
    weights = weights_in(instance, arguments)[0]
    return [instance.points] + as_fractions(weights, sum(weights))


def distance(instance, arguments):
    require_points(instance, arguments)
    found = all_distances(instance.lengths)[arguments[0]][arguments[1]]
    if found is None:
        raise NoPath()
    return [found]


def min_cost(instance, arguments):
    weights = weights_in(instance, arguments)
    distances = connected_distances(instance)
    plan = some_cheapest_plan(weights[0], weights[1], distances)
    return [0] + lowest_terms(plan_cost(plan, distances), plan_units(plan))


def optimal_plan(instance, arguments):
    weights = weights_in(instance, arguments)
    distances = connected_distances(instance)
    return plan_answer(greatest_cheapest_plan(weights[0], weights[1], distances), distances)


def optimal_potentials(instance, arguments):
    weights = weights_in(instance, arguments)
    distances = connected_distances(instance)
    potentials = greatest_best_potentials(weights[0], weights[1], distances)
    value = value_of_potentials(potentials, weights[0], weights[1])
    return [instance.points] + potentials + value


def check_plan(instance, arguments):
    denominator = arguments[2]
    entries = arguments[3]
    points = instance.points
    weights = weights_in(instance, arguments[:2])
    if denominator < 1 or len(entries) != points * points:
        raise Malformed()
    distances = connected_distances(instance)
    plan = [entries[points * row:points * row + points] for row in range(points)]
    if not is_plan(plan, denominator, weights[0], weights[1]):
        return [0]
    return [1] + lowest_terms(plan_cost(plan, distances), denominator)


def check_potentials(instance, arguments):
    potentials = arguments[2]
    weights = weights_in(instance, arguments[:2])
    require_each(instance, potentials, -GREATEST_POTENTIAL, GREATEST_POTENTIAL)
    feasible = are_feasible(potentials, connected_distances(instance))
    return [1 if feasible else 0] + value_of_potentials(potentials, weights[0], weights[1])


def compose_plans(instance, arguments):
    weights = weights_in(instance, arguments)
    distances = connected_distances(instance)
    there = greatest_cheapest_plan(weights[0], weights[1], distances)
    onward = greatest_cheapest_plan(weights[1], weights[2], distances)
    return plan_answer(composed_plan(there, onward, weights[1]), distances)


def map_distribution(instance, arguments):
    k = arguments[0]
    m = arguments[1]
    targets = arguments[2]
    require_slots([k, m])
    require_each(instance, targets, 0, instance.points - 1)
    instance.slots[m] = mapped_weights(instance.slots[k], targets)
    return [0]


def average(instance, arguments):
    weights = weights_in(instance, arguments)
    mean = mean_weights(weights[0], weights[1])
    for weight in mean:
        if lowest_terms(weight, sum(mean))[1] > GREATEST_DENOMINATOR:
            raise TooLarge()
    instance.slots[arguments[2]] = mean
    return [0]


def is_connected(instance, arguments):
    return [1 if all_connected(all_distances(instance.lengths)) else 0]


def require_points(instance, points):
    for point in points:
        if not 0 <= point < instance.points:
            raise Missing()


def require_slots(slots):
    for slot in slots:
        if not 0 <= slot < SLOTS:
            raise Missing()


def weights_in(instance, slots):
    require_slots(slots)
    return [instance.slots[slot] for slot in slots]


# A list with a number for each point, all of them within a range.
def require_each(instance, numbers, lowest, highest):
    if len(numbers) != instance.points or min(numbers) < lowest or max(numbers) > highest:
        raise Malformed()


def connected_distances(instance):
    distances = all_distances(instance.lengths)
    if not all_connected(distances):
        raise NoPath()
    return distances


def plan_answer(plan, distances):
    units = plan_units(plan)
    answer = [len(plan) * len(plan)]
    for row in plan:
        answer.extend(as_fractions(row, units))
    return answer + lowest_terms(plan_cost(plan, distances), units)


def as_fractions(amounts, units):
    fractions = []
    for amount in amounts:
        fractions.extend(lowest_terms(amount, units))
    return fractions


# By a call's number; create is not here, as it alone needs no instance.
OPERATIONS = {
    1: set_edge,
    2: set_distribution,
    3: distribution,
    4: distance,
    5: min_cost,
    6: optimal_plan,
    7: optimal_potentials,
    8: check_plan,
    9: check_potentials,
    10: compose_plans,
    11: map_distribution,
    12: average,
    13: is_connected,
}


def perform(instance, number, arguments):
    if instance is None:
        raise NoInstance()
    return OPERATIONS[number](instance, arguments)
