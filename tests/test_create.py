import unittest

from tests.support import (HIGHEST, LOWEST, ask, average, build, check_plan, check_potentials,
                           compose_plans, create, distance, distribution, is_connected, last_answer,
                           map_distribution, min_cost, optimal_plan, optimal_potentials,
                           set_distribution, set_edge, state_calls)

OUT_OF_RANGE = [LOWEST, LOWEST + 1, -7, -1, 0, 7, 8, 100, HIGHEST - 1, HIGHEST]

# A call each, well-formed on an instance with two points.
OTHER_CALLS = [
    set_edge(0, 1, 1),
    set_distribution(0, [1, 1]),
    distribution(0),
    distance(0, 0),
    min_cost(0, 0),
    optimal_plan(0, 0),
    optimal_potentials(0, 0),
    check_plan(0, 0, 1, [1, 0, 0, 0]),
    check_potentials(0, 0, [0, 0]),
    compose_plans(0, 0, 0),
    map_distribution(0, 0, [0, 0]),
    average(0, 0, 0),
    is_connected(),
]
# Refused for other reasons too, which come second.
WRONG_CALLS = [
    set_edge(LOWEST, HIGHEST, LOWEST),
    set_edge(0, 0, 10),
    set_distribution(LOWEST, []),
    set_distribution(HIGHEST, [LOWEST] * 70),
    set_distribution(0, []),
    distribution(HIGHEST),
    distance(LOWEST, HIGHEST),
    min_cost(LOWEST, HIGHEST),
    optimal_plan(HIGHEST, LOWEST),
    optimal_potentials(LOWEST, 4),
    check_plan(LOWEST, HIGHEST, LOWEST, []),
    check_plan(0, 0, 0, [HIGHEST] * 70),
    check_potentials(4, 4, []),
    check_potentials(0, 0, [LOWEST] * 70),
    compose_plans(0, -1, 4),
    map_distribution(-1, -1, [0] * 70),
    map_distribution(0, 0, []),
    average(HIGHEST, HIGHEST, HIGHEST),
]
NO_INSTANCE_CALLS = OTHER_CALLS + WRONG_CALLS


class Create(unittest.TestCase):
    def test_every_size(self):
        for n in range(1, 7):
            with self.subTest(n=n):
                at_point_0 = [n, 1, 1] + [0, 1] * (n - 1)
                given = ask(create(n), *[distribution(k) for k in range(4)])
                self.assertEqual(given, [[0]] + [at_point_0] * 4)

    def test_points_are_those_below_n(self):
        for n in range(1, 7):
            with self.subTest(n=n):
                given = ask(create(n), distance(n - 1, n - 1), distance(n, n), distance(0, n))
                self.assertEqual(given, [[0], [0], [-2], [-2]])

    def test_starts_without_edges(self):
        pairs = [(i, j) for i in range(6) for j in range(6) if i != j]
        given = ask(create(6), *[distance(i, j) for i, j in pairs])
        self.assertEqual(given, [[0]] + [[-33]] * 30)
        given = ask(create(6), *[set_edge(i, j, 0) for i, j in pairs])
        self.assertEqual(given, [[0]] + [[0]] * 30)

    def test_out_of_range_without_an_instance(self):
        for n in OUT_OF_RANGE:
            with self.subTest(n=n):
                self.assertEqual(ask(create(n), distribution(0)), [[-22], [-11]])

    def test_out_of_range_keeps_the_instance(self):
        calls = build(3, {(0, 1): 4, (1, 2): 5}, [[1, 2, 3], [3, 0, 0], [0, 1, 1], [5, 5, 6]])
        expected = ask(*calls, *state_calls(3))[len(calls):]
        for n in OUT_OF_RANGE:
            with self.subTest(n=n):
                given = ask(*calls, create(n), *state_calls(3))[len(calls):]
                self.assertEqual(given, [[-22]] + expected)

    def test_second_create_replaces_everything(self):
        calls = build(3, {(0, 1): 4, (1, 2): 5}, [[1, 2, 3], [3, 1, 0], [0, 1, 1], [5, 5, 6]])
        for n in range(1, 7):
            with self.subTest(n=n):
                anew = ask(create(n), *state_calls(n))
                self.assertEqual(ask(*calls, create(n), *state_calls(n))[len(calls):], anew)

    def test_create_behind_a_failed_one(self):
        self.assertEqual(ask(create(0), create(2), distribution(3)), [[-22], [0], [2, 1, 1, 0, 1]])


class NoInstance(unittest.TestCase):
    def test_each_number_is_among_these(self):
        self.assertEqual([call[0] for call in OTHER_CALLS], list(range(1, 14)))

    def test_each_call_at_first(self):
        for call in NO_INSTANCE_CALLS:
            with self.subTest(call=call):
                self.assertEqual(ask(call), [[-11]])

    def test_each_call_behind_a_failed_create(self):
        for call in NO_INSTANCE_CALLS:
            with self.subTest(call=call):
                self.assertEqual(ask(create(7), call, create(LOWEST), call), [[-22], [-11]] * 2)

    def test_all_calls_in_one_request(self):
        self.assertEqual(ask(*NO_INSTANCE_CALLS), [[-11]] * len(NO_INSTANCE_CALLS))

    def test_refused_calls_leave_nothing_behind(self):
        fresh = ask(create(2), *state_calls(2))
        given = ask(*OTHER_CALLS, create(2), *state_calls(2))
        self.assertEqual(given[len(OTHER_CALLS):], fresh)

    def test_not_any_more_behind_create(self):
        for call in OTHER_CALLS:
            with self.subTest(call=call):
                self.assertNotEqual(last_answer(create(2), call), [-11])


if __name__ == "__main__":
    unittest.main()
