"""Flows between rows and columns: entries that are raised at the lowest cost.

A flow is a matrix of whole amounts. Going round in it, some entries get more and
others as much less, so that no row and no column changes its sum.
"""


def raise_entry(flow, costs, free, row, column):
    # The entry itself is not free: to lower it and raise it again is no change.
    size = len(flow)
    while True:
        way = cheapest_way(open_steps(flow, costs, free), size + column, row)
        lowered = lowered_entries(way, size)
        raised = raised_entries(way, size)
        if not way or total_cost(costs, raised) > total_cost(costs, lowered):
            return
        amount = min([flow[i][j] for i, j in lowered])
        for i, j in lowered:
            flow[i][j] -= amount
        for i, j in raised:
            flow[i][j] += amount


# Rows are the places 0 to size - 1, columns the places behind them. A step from
# a row to a column means more of an entry, a step back means less of it.
def open_steps(flow, costs, free):
    size = len(flow)
    steps = []
    for row in range(size):
        for column in range(size):
            if free[row][column]:
                steps.append((row, size + column, costs[row][column]))
                if flow[row][column] > 0:
                    steps.append((size + column, row, -costs[row][column]))
    return steps


# Of equally cheap ways one with the fewest steps is taken: so it depends on the
# size of the flow alone, not on its amounts, how often an entry is raised.
def cheapest_way(steps, start, goal):
    reached = {start: (0, 0)}
    previous = {}
    changed = True
    while changed:
        changed = False
        for tail, head, cost in steps:
            if tail in reached:
                found = (reached[tail][0] + cost, reached[tail][1] + 1)
                if head not in reached or found < reached[head]:
                    reached[head] = found
                    previous[head] = tail
                    changed = True
    if goal not in reached:
        return []
    return traced_way(previous, start, goal)


def traced_way(previous, start, goal):
    way = [goal]
    while way[-1] != start:
        way.append(previous[way[-1]])
    way.reverse()
    return way


# A way starts at a column and ends at a row, and the two take turns on it.
def lowered_entries(way, size):
    return [(way[k + 1], way[k] - size) for k in range(0, len(way), 2)]


# The last entry leads from the way's end back to its start: the one to be raised.
def raised_entries(way, size):
    return [(way[k - 1], way[k] - size) for k in range(0, len(way), 2)]


def total_cost(costs, entries):
    return sum([costs[i][j] for i, j in entries])
