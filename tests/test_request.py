import unittest
from itertools import product

from earthheaps.transport import answers
from tests.support import (HIGHEST, LOWEST, ask, build, create, distance, distribution, joined,
                           min_cost, optimal_plan, set_distribution, set_edge, state_calls)

ENDS = (LOWEST, HIGHEST)


class Form(unittest.TestCase):
    def test_one_list_of_whole_numbers(self):
        given = answers([0, 2, 3, 0, 3, 4, 1, 0, 1, 5, 4, 0, 1])
        self.assertEqual(given, [1, 0, 5, 2, 1, 1, 0, 1, 1, -2, 1, 0, 1, 5])
        self.assertIs(type(given), list)
        self.assertEqual({type(number) for number in given}, {int})

    def test_how_many_numbers_each_answer_has(self):
        for n in range(1, 7):
            row = {(i, i + 1): 1 for i in range(n - 1)}
            calls = build(n, row, [[1] * n]) + [distribution(0), min_cost(0, 1), optimal_plan(0, 1)]
            with self.subTest(n=n):
                lengths = [len(answer) for answer in ask(*calls)]
                self.assertEqual(lengths, [1] * (n + 1) + [1 + 2 * n, 3, 3 + 2 * n * n])

    def test_one_call(self):
        self.assertEqual(answers([0, 6]), [1, 0])
        self.assertEqual(answers([0, 0]), [1, -22])
        self.assertEqual(answers([3, 0]), [1, -11])
        self.assertEqual(answers([2, 0, 0]), [1, -11])
        self.assertEqual(answers([13]), [1, -11])

    def test_list_of_70(self):
        for number in (LOWEST, -1, 0, 1, 20, HIGHEST):
            with self.subTest(number=number):
                given = ask(create(6), set_distribution(0, [number] * 70), distribution(0))
                self.assertEqual(given, [[0], [-22], [6, 1, 1] + [0, 1] * 5])

    def test_60_calls(self):
        edges = {(i, j): 1 + i + j % 4 for i in range(6) for j in range(i)}
        calls = build(6, edges, [[1, 2, 3, 4, 5, 6], [20, 0, 19, 0, 18, 0]])
        calls += [optimal_plan(k % 2, 1 - k % 2) for k in range(60 - len(calls))]
        self.assertEqual(len(calls), 60)
        given = ask(*calls)
        self.assertEqual(given[18:], [given[18], given[19]] * 21)
        self.assertNotEqual(given[18], given[19])

    def test_60_calls_with_the_longest_lists(self):
        calls = [create(6)] + [set_distribution(0, [HIGHEST] * 70)] * 59
        self.assertLessEqual(len(joined(calls)), 4500)
        self.assertEqual(ask(*calls), [[0]] + [[-22]] * 59)

    def test_refused_calls_between_others(self):
        calls = [create(2), set_edge(0, 2, 1), set_edge(0, 1, 3), set_distribution(0, [1, 1, 1]),
                 set_distribution(1, [0, 1]), create(9), min_cost(0, 4), min_cost(0, 1)]
        self.assertEqual(ask(*calls), [[0], [-2], [0], [-22], [0], [-22], [-2], [0, 3, 1]])


class Ends(unittest.TestCase):
    """Whole numbers at both ends of the range, in each place of each call."""

    def test_each_place(self):
        calls = build(3, {(0, 1): 4, (1, 2): 5}, [[1, 2, 3], [3, 1, 0]])
        state = ask(*calls, *state_calls(3))[len(calls):]
        for end in ENDS:
            for call, code in [
                (create(end), -22),
                (set_edge(end, 1, 1), -2),
                (set_edge(0, end, 1), -2),
                (set_edge(0, 1, end), -22),
                (set_distribution(end, [1, 1, 1]), -2),
                (set_distribution(0, [end, 1, 1]), -22),
                (set_distribution(0, [1, end, 1]), -22),
                (set_distribution(0, [1, 1, end]), -22),
                (distribution(end), -2),
                (distance(end, 0), -2),
                (distance(0, end), -2),
                (min_cost(end, 0), -2),
                (min_cost(0, end), -2),
                (optimal_plan(end, 0), -2),
                (optimal_plan(0, end), -2),
            ]:
                with self.subTest(call=call):
                    self.assertEqual(ask(*calls, call, *state_calls(3))[len(calls):], [[code]] + state)

    def test_all_places_at_once(self):
        for first, second, third in product(ENDS, repeat=3):
            with self.subTest(first=first, second=second, third=third):
                given = ask(create(3), set_edge(first, second, third),
                            set_distribution(first, [second, third, second]),
                            set_distribution(0, [first, second, third]), distance(first, second),
                            min_cost(first, second), optimal_plan(first, second))
                self.assertEqual(given, [[0], [-2], [-2], [-22], [-2], [-2], [-2]])


class Handed(unittest.TestCase):
    REQUEST = joined(build(3, {(0, 1): 2, (1, 2): 3}, [[1, 1, 0], [0, 1, 1]]) + [
        min_cost(0, 1), optimal_plan(0, 1), distribution(1), distance(0, 2), set_edge(0, 1, 0),
        optimal_plan(0, 1), set_distribution(0, [0] * 70), distribution(0), create(0), create(1),
    ])
    OTHER = joined(build(4, {(0, 1): 9}, [[5, 6, 7, 8]]) + [distance(0, 1), min_cost(0, 1)])

    def test_list_is_not_changed(self):
        for request in (self.REQUEST, self.OTHER, [0, 1], [0, 7], [3, 0]):
            with self.subTest(request=request):
                handed = list(request)
                answers(handed)
                self.assertEqual(handed, request)

    def test_answer_is_a_list_of_its_own(self):
        handed = list(self.REQUEST)
        given = answers(handed)
        kept = list(given)
        given.clear()
        self.assertEqual(handed, self.REQUEST)
        self.assertEqual(answers(handed), kept)

    def test_same_request_twice(self):
        first = answers(list(self.REQUEST))
        between = answers(list(self.OTHER))
        self.assertEqual(answers(list(self.REQUEST)), first)
        self.assertEqual(answers(list(self.OTHER)), between)

    def test_no_instance_is_left_from_the_list_before(self):
        answers(list(self.REQUEST))
        self.assertEqual(ask(distribution(0), min_cost(0, 0)), [[-11], [-11]])

    def test_no_instance_is_changed_from_the_list_before(self):
        fresh = ask(create(3), *state_calls(3))
        answers(list(self.REQUEST))
        self.assertEqual(ask(create(3), *state_calls(3)), fresh)


if __name__ == "__main__":
    unittest.main()
