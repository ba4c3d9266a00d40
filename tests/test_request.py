import unittest
from itertools import product

from earthheaps.transport import answers
from tests.support import (HIGHEST, LOWEST, ask, average, build, check_plan, check_potentials,
                           compose_plans, create, distance, distribution, is_connected, joined,
                           map_distribution, min_cost, optimal_plan, optimal_potentials,
                           set_distribution, set_edge, state_calls)

ENDS = (LOWEST, HIGHEST)


class Form(unittest.TestCase):
    def test_one_list_of_whole_numbers(self):
        given = answers([0, 2, 3, 0, 3, 4, 1, 0, 1, 5, 4, 0, 1])
        self.assertEqual(given, [1, 0, 5, 2, 1, 1, 0, 1, 1, -2, 1, 0, 1, 5])
        self.assertIs(type(given), list)
        self.assertEqual({type(number) for number in given}, {int})

    def test_how_many_numbers_each_answer_has(self):
        for n in range(1, 7):
            row = {(i, i + 1): 1 for i in range(n - 1)}
            calls = build(n, row, [[1] * n]) + [
                distribution(0), distance(0, n - 1), min_cost(0, 1), optimal_plan(0, 1),
                optimal_potentials(0, 1), check_plan(0, 0, n, [1] * (n * n)),
                check_plan(1, 1, 1, [1] + [0] * (n * n - 1)), check_potentials(0, 1, [0] * n),
                compose_plans(0, 1, 0), map_distribution(0, 2, [0] * n), average(0, 1, 2), is_connected(),
            ]
            with self.subTest(n=n):
                lengths = [len(answer) for answer in ask(*calls)]
                self.assertEqual(lengths, [1] * (n + 1) + [
                    1 + 2 * n, 1, 3, 3 + 2 * n * n, 1 + n + 2, 3 if n == 1 else 1, 3, 3, 3 + 2 * n * n, 1, 1, 1])

    def test_one_call(self):
        self.assertEqual(answers([0, 6]), [1, 0])
        self.assertEqual(answers([0, 0]), [1, -22])
        self.assertEqual(answers([3, 0]), [1, -11])
        self.assertEqual(answers([2, 0, 0]), [1, -11])
        self.assertEqual(answers([13]), [1, -11])

    def test_each_call_in_one_list(self):
        given = answers([0, 2, 13, 1, 0, 1, 3, 13, 2, 1, 2, 0, 1, 3, 1, 4, 1, 0, 5, 0, 1, 6, 0, 1, 7, 1, 0,
                         8, 0, 1, 7, 4, 0, 7, 0, 0, 9, 1, 0, 2, 5, -2, 10, 0, 1, 0, 11, 1, 2, 2, 1, 1,
                         12, 1, 2, 3, 3, 3])
        self.assertEqual(given, [
            1, 0, 1, 0, 1, 0, 1, 1, 1, 0, 5, 2, 0, 1, 1, 1, 1, 3, 3, 0, 3, 1,
            11, 4, 0, 1, 1, 1, 0, 1, 0, 1, 3, 1, 5, 2, 0, -3, 3, 1, 3, 1, 3, 1, 3, 0, 7, 1,
            11, 4, 1, 1, 0, 1, 0, 1, 0, 1, 0, 1, 1, 0, 1, 0, 5, 2, 0, 1, 1, 1])

    def test_numbers_below_0_behind_the_first_one(self):
        calls = build(2, {(0, 1): 9}, [[1, 0], [0, 1]])
        given = ask(*calls, optimal_potentials(1, 0), check_potentials(0, 1, [5, -6]),
                    check_potentials(0, 1, [5, 4]))
        self.assertEqual(given[len(calls):], [[2, 0, -9, 9, 1], [0, -11, 1], [1, -1, 1]])

    def test_list_of_70(self):
        for number in (LOWEST, -1, 0, 1, 20, HIGHEST):
            with self.subTest(number=number):
                given = ask(create(6), set_distribution(0, [number] * 70), distribution(0))
                self.assertEqual(given, [[0], [-22], [6, 1, 1] + [0, 1] * 5])
                row = [number] * 70
                given = ask(create(6), check_plan(0, 0, 1, row), check_potentials(0, 0, row),
                            map_distribution(0, 1, row), distribution(1))
                self.assertEqual(given, [[0], [-22], [-22], [-22], [6, 1, 1] + [0, 1] * 5])

    def test_60_calls(self):
        edges = {(i, j): 1 + i + j % 4 for i in range(6) for j in range(i)}
        calls = build(6, edges, [[1, 2, 3, 4, 5, 6], [20, 0, 19, 0, 18, 0]])
        calls += [optimal_plan(k % 2, 1 - k % 2) for k in range(60 - len(calls))]
        self.assertEqual(len(calls), 60)
        given = ask(*calls)
        self.assertEqual(given[18:], [given[18], given[19]] * 21)
        self.assertNotEqual(given[18], given[19])

    def test_60_calls_with_the_longest_lists(self):
        for call in (set_distribution(0, [HIGHEST] * 70), check_plan(0, 0, 1, [HIGHEST] * 70),
                     check_potentials(0, 0, [LOWEST] * 70), map_distribution(0, 0, [LOWEST] * 70)):
            with self.subTest(call=call[0]):
                calls = [create(6)] + [call] * 59
                self.assertLessEqual(len(joined(calls)), 4500)
                self.assertEqual(ask(*calls), [[0]] + [[-22]] * 59)

    def test_60_calls_on_the_largest_denominators(self):
        edges = {(i, j): 1 + (3 * i + 5 * j) % 9 for i in range(6) for j in range(i)}
        calls = build(6, edges, [[20, 19, 18, 17, 16, 15], [1, 2, 3, 5, 7, 11], [20, 0, 17, 0, 13, 0],
                                 [3, 0, 0, 20, 19, 7]])
        calls += [average(0, 1, 0), average(2, 3, 3)] + [average(3, 2, 3)] * 4
        calls += [compose_plans(k % 4, (k + 1) % 4, (k + 2) % 4) for k in range(60 - len(calls))]
        given = ask(*calls)
        self.assertEqual(given[20:26], [[0]] * 6)
        self.assertEqual(given[26:56], given[30:60])

    def test_refused_calls_between_others(self):
        calls = [create(2), set_edge(0, 2, 1), set_edge(0, 1, 3), set_distribution(0, [1, 1, 1]),
                 set_distribution(1, [0, 1]), create(9), min_cost(0, 4), min_cost(0, 1)]
        self.assertEqual(ask(*calls), [[0], [-2], [0], [-22], [0], [-22], [-2], [0, 3, 1]])


class Ends(unittest.TestCase):
    """Whole numbers at both ends of the range, in each place of each call."""

    def test_each_place(self):
        calls = build(3, {(0, 1): 4, (1, 2): 5}, [[1, 2, 3], [3, 1, 0]])
        state = ask(*calls, *state_calls(3))[len(calls):]
        for end in ENDS:
            for call, code in [
                (create(end), -22),
                (set_edge(end, 1, 1), -2),
                (set_edge(0, end, 1), -2),
                (set_edge(0, 1, end), -22),
                (set_distribution(end, [1, 1, 1]), -2),
                (set_distribution(0, [end, 1, 1]), -22),
                (set_distribution(0, [1, end, 1]), -22),
                (set_distribution(0, [1, 1, end]), -22),
                (distribution(end), -2),
                (distance(end, 0), -2),
                (distance(0, end), -2),
                (min_cost(end, 0), -2),
                (min_cost(0, end), -2),
                (optimal_plan(end, 0), -2),
                (optimal_plan(0, end), -2),
                (optimal_potentials(end, 0), -2),
                (optimal_potentials(0, end), -2),
                (check_plan(end, 0, 1, [0] * 9), -2),
                (check_plan(0, end, 1, [0] * 9), -2),
                (check_potentials(end, 0, [0, 0, 0]), -2),
                (check_potentials(0, end, [0, 0, 0]), -2),
                (check_potentials(0, 1, [end, 0, 0]), -22),
                (check_potentials(0, 1, [0, end, 0]), -22),
                (check_potentials(0, 1, [0, 0, end]), -22),
                (compose_plans(end, 0, 0), -2),
                (compose_plans(0, end, 0), -2),
                (compose_plans(0, 0, end), -2),
                (map_distribution(end, 0, [0, 1, 2]), -2),
                (map_distribution(0, end, [0, 1, 2]), -2),
                (map_distribution(0, 1, [end, 1, 2]), -22),
                (map_distribution(0, 1, [0, end, 2]), -22),
                (map_distribution(0, 1, [0, 1, end]), -22),
                (average(end, 0, 0), -2),
                (average(0, end, 0), -2),
                (average(0, 0, end), -2),
                (check_plan(0, 1, LOWEST, [end] * 9), -22),
                (check_plan(0, 1, HIGHEST, [end] * 9), 0),
                (check_plan(0, 1, 1, [end] + [0] * 8), 0),
            ]:
                with self.subTest(call=call):
                    self.assertEqual(ask(*calls, call, *state_calls(3))[len(calls):], [[code]] + state)

    def test_all_places_at_once(self):
        for first, second, third in product(ENDS, repeat=3):
            with self.subTest(first=first, second=second, third=third):
                given = ask(create(3), set_edge(first, second, third),
                            set_distribution(first, [second, third, second]),
                            set_distribution(0, [first, second, third]), distance(first, second),
                            min_cost(first, second), optimal_plan(first, second),
                            optimal_potentials(first, second), check_plan(first, second, third, [first] * 9),
                            check_potentials(first, second, [third] * 3), compose_plans(first, second, third),
                            map_distribution(first, second, [third] * 3), average(first, second, third))
                self.assertEqual(given, [[0], [-2], [-2], [-22]] + [[-2]] * 9)


class Handed(unittest.TestCase):
    REQUEST = joined(build(3, {(0, 1): 2, (1, 2): 3}, [[1, 1, 0], [0, 1, 1]]) + [
        min_cost(0, 1), optimal_plan(0, 1), distribution(1), distance(0, 2), set_edge(0, 1, 0),
        optimal_plan(0, 1), set_distribution(0, [0] * 70), distribution(0), create(0), set_edge(0, 2, 1),
        optimal_potentials(0, 1), check_plan(0, 1, 2, [0, 0, 1, 0, 1, 0, 0, 0, 0]),
        check_potentials(0, 1, [0, -1, 999]), compose_plans(0, 1, 0), map_distribution(0, 0, [2, 2, 0]),
        average(0, 1, 3), is_connected(), compose_plans(0, 3, 1), check_plan(0, 0, 0, []), create(1),
    ])
    OTHER = joined(build(4, {(0, 1): 9}, [[5, 6, 7, 8]]) + [distance(0, 1), min_cost(0, 1)])

    def test_list_is_not_changed(self):
        for request in (self.REQUEST, self.OTHER, [0, 1], [0, 7], [3, 0]):
            with self.subTest(request=request):
                handed = list(request)
                answers(handed)
                self.assertEqual(handed, request)

    def test_answer_is_a_list_of_its_own(self):
        handed = list(self.REQUEST)
        given = answers(handed)
        kept = list(given)
        given.clear()
        self.assertEqual(handed, self.REQUEST)
        self.assertEqual(answers(handed), kept)

    def test_same_request_twice(self):
        first = answers(list(self.REQUEST))
        between = answers(list(self.OTHER))
        self.assertEqual(answers(list(self.REQUEST)), first)
        self.assertEqual(answers(list(self.OTHER)), between)

    def test_no_instance_is_left_from_the_list_before(self):
        answers(list(self.REQUEST))
        self.assertEqual(ask(distribution(0), min_cost(0, 0)), [[-11], [-11]])

    def test_no_instance_is_changed_from_the_list_before(self):
        fresh = ask(create(3), *state_calls(3))
        answers(list(self.REQUEST))
        self.assertEqual(ask(create(3), *state_calls(3)), fresh)


if __name__ == "__main__":
    unittest.main()
