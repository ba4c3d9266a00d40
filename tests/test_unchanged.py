"""What leaves the instance as it was: every query, and every call that is refused."""

import unittest
from random import Random

from tests.cases import derived_requests
from tests.support import (HIGHEST, LOWEST, ask, average, build, check_plan, check_potentials,
                           compose_plans, create, distance, distribution, is_connected, map_distribution,
                           min_cost, optimal_plan, optimal_potentials, set_distribution, set_edge,
                           state_calls)

QUERIES = [
    distribution(0),
    distribution(3),
    distance(0, 2),
    distance(1, 1),
    min_cost(0, 1),
    min_cost(2, 2),
    optimal_plan(0, 1),
    optimal_plan(3, 2),
    optimal_potentials(0, 1),
    optimal_potentials(2, 0),
    check_plan(0, 1, 2, [0, 0, 1, 0, 1, 0, 0, 0, 0]),
    check_plan(0, 1, 12, [1, 1, 0, 4, 0, 0, 4, 2, 0]),
    check_plan(3, 3, 1, [-1, 0, 0, 0, 1, 0, 0, 0, 1]),
    check_potentials(0, 1, [0, 2, 4]),
    check_potentials(3, 2, [999, -999, 0]),
    compose_plans(0, 1, 2),
    compose_plans(3, 3, 3),
    compose_plans(2, 1, 0),
    is_connected(),
]
# Whatever the instance with three points is.
REFUSED = {
    -2: [
        set_edge(3, 0, 1), set_edge(0, -1, 11), distribution(4), distribution(-1), distance(0, 3),
        set_distribution(4, [1, 1, 1]), set_distribution(-1, []), min_cost(0, 4), min_cost(-1, 0),
        optimal_plan(4, 0), optimal_potentials(0, 4), optimal_potentials(LOWEST, HIGHEST),
        check_plan(4, 0, 1, [1] * 9), check_plan(0, -1, 0, []), check_potentials(0, 4, [0, 0, 0]),
        check_potentials(-1, 0, [1000]), compose_plans(4, 0, 0), compose_plans(0, 4, 0),
        compose_plans(0, 0, 4), map_distribution(4, 0, [0, 0, 0]), map_distribution(0, 4, [0, 0, 0]),
        map_distribution(0, -1, [3]), average(4, 0, 0), average(0, 4, 0), average(0, 0, 4),
        average(HIGHEST, HIGHEST, LOWEST),
    ],
    -22: [
        create(0), create(7), create(LOWEST), create(HIGHEST), set_edge(0, 1, 10), set_edge(0, 1, -1),
        set_edge(1, 1, 0), set_distribution(0, [1, 1]), set_distribution(0, [0, 0, 0]),
        set_distribution(1, [21, 0, 0]), set_distribution(2, [1, 2, -1]), check_plan(0, 1, 0, [1] * 9),
        check_plan(0, 1, 1, [1] * 8), check_plan(0, 1, -1, [1] * 10), check_potentials(0, 1, [0, 0]),
        check_potentials(0, 1, [0, 1000, 0]), check_potentials(0, 1, [0, 0, 0, -1000]),
        map_distribution(0, 1, [0, 1]), map_distribution(0, 0, [1, 2, 3]), map_distribution(0, 1, [-1, 0, 0]),
        map_distribution(0, 1, [0, 0, 0, 0]),
    ],
}
REFUSED_WHERE_NOT_CONNECTED = [
    min_cost(0, 1), optimal_plan(0, 1), optimal_potentials(0, 1), check_plan(0, 1, 2, [1] * 9),
    check_potentials(0, 1, [0, 2, 4]), compose_plans(0, 1, 2),
]


def instances():
    random = Random(11)
    for edges in ({(0, 1): 2, (1, 2): 3}, {(0, 1): 2, (1, 2): 3, (0, 2): 1}, {(0, 2): 9}, {}):
        yield edges, build(3, edges, [[1, 1, 0], [0, 1, 1], [4, 5, 6], [20, 0, 1]])
        yield edges, build(3, edges) + derived_requests(random, 3)[0]


class Unchanged(unittest.TestCase):
    def check(self, calls, call):
        """Gives back the answer; afterwards the state is what it is without the call."""
        expected = ask(*calls, *state_calls(3))[len(calls):]
        given = ask(*calls, call, *state_calls(3))[len(calls):]
        self.assertEqual(given[1:], expected)
        return given[0]

    def test_by_queries(self):
        for edges, calls in instances():
            for call in QUERIES:
                with self.subTest(edges=edges, call=call):
                    self.check(calls, call)

    def test_by_refused_calls(self):
        for edges, calls in instances():
            for code, refused in REFUSED.items():
                for call in refused:
                    with self.subTest(edges=edges, call=call):
                        self.assertEqual(self.check(calls, call), [code])

    def test_by_calls_that_are_refused_where_not_connected(self):
        for edges, calls in instances():
            for call in REFUSED_WHERE_NOT_CONNECTED:
                with self.subTest(edges=edges, call=call):
                    self.assertEqual(self.check(calls, call) == [-33], len(edges) < 2)

    def test_by_means_that_are_refused(self):
        for edges, calls in instances():
            calls = calls + [set_distribution(0, [1, 2, 0]), set_distribution(1, [0, 0, 5])]
            calls += [average(0, 1, 0)] * 16
            for call in (average(0, 1, 0), average(1, 0, 1), average(0, 1, 2)):
                with self.subTest(edges=edges, call=call):
                    self.assertEqual(self.check(calls, call), [-75])

    def test_all_queries_and_refused_calls_behind_each_other(self):
        for edges, calls in instances():
            between = QUERIES[3:] + REFUSED[-2][::3] + REFUSED[-22][::4]
            between = between[:60 - len(calls) - 7]
            with self.subTest(edges=edges):
                expected = ask(*calls, *state_calls(3))[len(calls):]
                given = ask(*calls, *between, *state_calls(3))[len(calls) + len(between):]
                self.assertEqual(given, expected)

    def test_the_same_answer_again(self):
        for edges, calls in instances():
            for call in QUERIES:
                with self.subTest(edges=edges, call=call):
                    first, second = ask(*calls, call, call)[len(calls):]
                    self.assertEqual(first, second)


if __name__ == "__main__":
    unittest.main()
