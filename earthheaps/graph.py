"""Distances on a graph that is given by the lengths of its edges."""


# A distance is None where there is no path.
def all_distances(lengths):
    points = len(lengths)
    distances = [[length if length > 0 else None for length in row] for row in lengths]
    for point in range(points):
        distances[point][point] = 0
    for middle in range(points):
        for start in range(points):
            for end in range(points):
                way = joined(distances[start][middle], distances[middle][end])
                distances[start][end] = shorter(distances[start][end], way)
    return distances


def joined(first, second):
    if first is None or second is None:
        return None
    return first + second


def shorter(first, second):
    if first is None:
        return second
    if second is None:
        return first
    return min(first, second)


def all_connected(distances):
    # Edges have no direction, so one point that reaches all is enough.
    return None not in distances[0]
