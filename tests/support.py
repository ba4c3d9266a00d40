"""How the tests put calls into one list and take the answers apart again."""

from fractions import Fraction
from math import lcm

from earthheaps.transport import answers

LOWEST = -2147483648
HIGHEST = 2147483647


def create(n):
    return [0, n]


def set_edge(i, j, length):
    return [1, i, j, length]


def set_distribution(k, weights):
    return [2, k, len(weights)] + list(weights)


def distribution(k):
    return [3, k]


def distance(i, j):
    return [4, i, j]


def min_cost(k, l):
    return [5, k, l]


def optimal_plan(k, l):
    return [6, k, l]


def optimal_potentials(k, l):
    return [7, k, l]


def check_plan(k, l, denominator, entries):
    return [8, k, l, denominator, len(entries)] + list(entries)


def check_potentials(k, l, potentials):
    return [9, k, l, len(potentials)] + list(potentials)


def compose_plans(k, l, m):
    return [10, k, l, m]


def map_distribution(k, m, targets):
    return [11, k, m, len(targets)] + list(targets)


def average(k, l, m):
    return [12, k, l, m]


def is_connected():
    return [13]


def joined(calls):
    return [number for call in calls for number in call]


def apart(given):
    """The answers, a list each: every one stands behind its length."""
    lists = []
    place = 0
    while place < len(given):
        end = place + 1 + given[place]
        lists.append(given[place + 1:end])
        place = end
    if place != len(given):
        raise AssertionError("the last answer is shorter than it says")
    return lists


def ask(*calls):
    """The answers of one request; it has to answer each call, in whole numbers."""
    given = answers(joined(calls))
    if not all(type(number) is int for number in given):
        raise AssertionError("not whole numbers alone")
    lists = apart(given)
    if len(lists) != len(calls):
        raise AssertionError("not one answer a call")
    return lists


def build(n, edges, weights=()):
    """The calls that make an instance; `weights` fill the slots from 0 on."""
    calls = [create(n)]
    calls += [set_edge(i, j, length) for (i, j), length in sorted(edges.items())]
    calls += [set_distribution(k, row) for k, row in enumerate(weights)]
    return calls


def last_answer(*calls):
    return ask(*calls)[-1]


def state_calls(n):
    """Calls that show the whole state; they take the edges away."""
    calls = [distribution(k) for k in range(4)]
    return calls + [set_edge(i, j, 0) for i in range(n) for j in range(i)]


def as_fractions(numbers):
    """Numerators and denominators as fractions; only lowest terms are taken."""
    fractions = []
    for numerator, denominator in zip(numbers[::2], numbers[1::2], strict=True):
        fraction = Fraction(numerator, denominator)
        if (fraction.numerator, fraction.denominator) != (numerator, denominator):
            raise AssertionError(f"{numerator}/{denominator} is not in lowest terms")
        fractions.append(fraction)
    return fractions


def cost_of(answer):
    if answer[0] != 0 or len(answer) != 3:
        raise AssertionError(f"{answer} is not a cost")
    return as_fractions(answer[1:])[0]


def plan_of(answer, n):
    """The rows of the plan, and the cost that is told with it."""
    if answer[0] != n * n or len(answer) != 1 + 2 * n * n + 2:
        raise AssertionError(f"{answer} is not a plan of {n} points")
    fractions = as_fractions(answer[1:])
    return [fractions[n * row:n * row + n] for row in range(n)], fractions[-1]


def potentials_of(answer, n):
    """The potentials, and the value that is told with them."""
    if answer[0] != n or len(answer) != 1 + n + 2:
        raise AssertionError(f"{answer} is not potentials of {n} points")
    return answer[1:-2], as_fractions(answer[-2:])[0]


def told_of(answer):
    """Whether plan or potentials hold, and the cost or value behind that."""
    if answer[0] not in (0, 1) or len(answer) != 3:
        raise AssertionError(f"{answer} is no answer with a cost or a value")
    return answer[0] == 1, as_fractions(answer[1:])[0]


def shares_of(answer, n):
    if answer[0] != n or len(answer) != 1 + 2 * n:
        raise AssertionError(f"{answer} is not a distribution on {n} points")
    return as_fractions(answer[1:])


def as_whole(plan):
    """The fewest units that all entries are whole numbers of, and these numbers, row by row."""
    units = lcm(*[p.denominator for row in plan for p in row])
    return units, [int(p * units) for row in plan for p in row]
