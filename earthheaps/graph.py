"""Distances on a graph that is given by the lengths of its edges."""


# A distance is None where there is no path.
def all_distances(lengths):
    steps = [[length if length > 0 else None for length in row] for row in lengths]
    for point in range(len(lengths)):
        steps[point][point] = 0
    return shortest_ways(steps)


# Steps may be below 0, so long as no way that ends where it began is.
def shortest_ways(steps):
    points = len(steps)
    ways = [list(row) for row in steps]
    for middle in range(points):
        for start in range(points):
            for end in range(points):
                way = joined(ways[start][middle], ways[middle][end])
                ways[start][end] = shorter(ways[start][end], way)
    return ways


def joined(first, second):
    if first is None or second is None:
        return None
    return first + second


def shorter(first, second):
    if first is None:
        return second
    if second is None:
        return first
    return min(first, second)


def all_connected(distances):
    # Edges have no direction, so one point that reaches all is enough.
    return None not in distances[0]
