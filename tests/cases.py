"""Graphs and distributions that several tests go through."""

from random import Random

from tests.independent import distances_by_trial, mapped, mean, shares
from tests.support import HIGHEST, LOWEST, average, build, map_distribution, set_distribution

NO_SLOTS = [LOWEST, LOWEST + 1, -4, -1, 4, 5, HIGHEST - 1, HIGHEST]

# Connected graphs, by their number of points and their edges. With equal lengths
# there are many plans with the lowest cost.
GRAPHS = {
    "one point": (1, {}),
    "two points": (2, {(0, 1): 7}),
    "row": (3, {(0, 1): 2, (1, 2): 3}),
    "row from the middle": (3, {(0, 1): 1, (0, 2): 1}),
    "triangle": (3, {(0, 1): 1, (1, 2): 1, (0, 2): 1}),
    "edge no one takes": (3, {(0, 1): 4, (1, 2): 1, (0, 2): 9}),
    "row of four": (4, {(0, 1): 1, (1, 2): 1, (2, 3): 1}),
    "square": (4, {(0, 1): 1, (1, 2): 1, (2, 3): 1, (0, 3): 1}),
    "star": (5, {(2, 0): 1, (2, 1): 3, (2, 3): 1, (2, 4): 9}),
    "row of six": (6, {(i, i + 1): 9 for i in range(5)}),
    "ring": (6, {(i, (i + 1) % 6): 1 + i % 2 for i in range(6)}),
    "all equal": (6, {(i, j): 1 for i in range(6) for j in range(i)}),
    "all edges": (6, {(i, j): 1 + (3 * i + 5 * j) % 9 for i in range(6) for j in range(i)}),
}

NOT_CONNECTED = {
    "two points": (2, {}),
    "last alone": (3, {(0, 1): 1}),
    "first alone": (3, {(1, 2): 1}),
    "two pairs": (4, {(0, 2): 3, (1, 3): 9}),
    "no edge": (6, {}),
    "two triangles": (6, {(0, 1): 1, (1, 2): 1, (0, 2): 1, (3, 4): 1, (4, 5): 1, (3, 5): 1}),
    "five and one": (6, {(i, i + 1): 1 for i in range(4)}),
}

# Sums whose common denominator is small enough to go through all plans.
SUMS = [(1, 1), (2, 1), (2, 3), (4, 2), (3, 6), (5, 5), (6, 6), (6, 1)]


def spread(random, n, units):
    weights = [0] * n
    for _ in range(units):
        weights[random.randrange(n)] += 1
    return weights


def heavy(random, n):
    """Weights from the whole range, some of them 0."""
    while True:
        weights = [random.choice([0, random.randint(1, 20), 20]) for _ in range(n)]
        if any(weights):
            return weights


def small_cases():
    """Name, n, edges, distances and two distributions with a small common denominator."""
    random = Random(1)
    for name, (n, edges) in GRAPHS.items():
        distances = distances_by_trial(n, edges)
        for first, second in SUMS * 3:
            yield name, n, edges, distances, spread(random, n, first), spread(random, n, second)


def heavy_cases(most_points, times):
    random = Random(2)
    for name, (n, edges) in GRAPHS.items():
        if n <= most_points:
            distances = distances_by_trial(n, edges)
            for _ in range(times):
                yield name, n, edges, distances, heavy(random, n), heavy(random, n)


def derived_requests(random, n):
    """The calls that fill the slots anew over and over, and the fractions in them at last.

    A mean with a denominator that is too large changes nothing.
    """
    calls = []
    slots = [shares([1] + [0] * (n - 1)) for _ in range(4)]
    for k in range(4):
        weights = heavy(random, n)
        calls.append(set_distribution(k, weights))
        slots[k] = shares(weights)
    for _ in range(12):
        k, l, m = [random.randrange(4) for _ in range(3)]
        if random.random() < 0.2:
            targets = [random.choice([i, i, random.randrange(n)]) for i in range(n)]
            calls.append(map_distribution(k, m, targets))
            slots[m] = mapped(slots[k], targets)
        else:
            calls.append(average(k, l, m))
            both = mean(slots[k], slots[l])
            if max(p.denominator for p in both) <= 100000:
                slots[m] = both
    return calls, slots


def derived_cases(times):
    """Name, n, the calls that make an instance, distances and the fractions in slots 0 and 1."""
    random = Random(4)
    names = list(GRAPHS)
    for time in range(times):
        name = names[time % len(names)]
        n, edges = GRAPHS[name]
        calls, slots = derived_requests(random, n)
        yield name, n, build(n, edges) + calls, distances_by_trial(n, edges), slots[0], slots[1]


def random_graph(random):
    """Connected, with any number of edges more than that takes; often with equal lengths."""
    n = random.randint(1, 6)
    longest = random.choice([1, 2, 9])
    edges = {(random.randrange(i), i): random.randint(1, longest) for i in range(1, n)}
    for _ in range(random.choice([0, 1, 3, 9])):
        i, j = random.randrange(n), random.randrange(n)
        if i < j:
            edges[(i, j)] = random.randint(1, longest)
    return n, edges


def random_cases(times):
    """n, the calls that make an instance, distances and the fractions in all the slots."""
    random = Random(12)
    for time in range(times):
        n, edges = random_graph(random)
        if time % 2:
            calls, slots = derived_requests(random, n)
        else:
            weights = [spread(random, n, random.randint(1, 5)) for _ in range(3)] + [heavy(random, n)]
            calls = [set_distribution(k, row) for k, row in enumerate(weights)]
            slots = [shares(row) for row in weights]
        yield n, build(n, edges) + calls, distances_by_trial(n, edges), slots
