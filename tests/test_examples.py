import unittest

from earthheaps.transport import answers
from tests.support import (ask, average, check_plan, check_potentials, create, distance, distribution,
                           min_cost, optimal_plan, optimal_potentials, set_distribution, set_edge)

ROWS = [
    (create(3), [0]),
    (set_edge(0, 1, 2), [0]),
    (min_cost(0, 1), [-33]),
    (set_edge(1, 2, 3), [0]),
    (distance(0, 2), [5]),
    (set_distribution(0, [1, 1, 0]), [0]),
    (set_distribution(1, [0, 1, 1]), [0]),
    (min_cost(0, 1), [0, 5, 2]),
    (optimal_plan(0, 1), [9, 0, 1, 1, 2, 0, 1, 0, 1, 0, 1, 1, 2, 0, 1, 0, 1, 0, 1, 5, 2]),
    (optimal_potentials(0, 1), [3, 0, 2, 5, 5, 2]),
    (check_potentials(0, 1, [0, 2, 4]), [1, 2, 1]),
    (check_plan(0, 1, 2, [0, 0, 1, 0, 1, 0, 0, 0, 0]), [1, 5, 2]),
    (check_plan(0, 1, 2, [0, 1, 0, 0, 0, 0, 0, 0, 0]), [0]),
    (average(0, 1, 2), [0]),
    (distribution(2), [3, 1, 4, 1, 2, 1, 4]),
    (set_distribution(4, [1, 1, 1]), [-2]),
]


class Examples(unittest.TestCase):
    def test_table(self):
        given = ask(*[call for call, answer in ROWS])
        for (call, expected), answer in zip(ROWS, given):
            with self.subTest(call=call):
                self.assertEqual(answer, expected)

    def test_table_as_one_list(self):
        calls = [0, 3, 1, 0, 1, 2, 5, 0, 1, 1, 1, 2, 3, 4, 0, 2, 2, 0, 3, 1, 1, 0, 2, 1, 3, 0, 1, 1,
                 5, 0, 1, 6, 0, 1, 7, 0, 1, 9, 0, 1, 3, 0, 2, 4, 8, 0, 1, 2, 9, 0, 0, 1, 0, 1, 0, 0, 0, 0,
                 8, 0, 1, 2, 9, 0, 1, 0, 0, 0, 0, 0, 0, 0, 12, 0, 1, 2, 3, 2, 2, 4, 3, 1, 1, 1]
        self.assertEqual(answers(calls), [
            1, 0, 1, 0, 1, -33, 1, 0, 1, 5, 1, 0, 1, 0, 3, 0, 5, 2,
            21, 9, 0, 1, 1, 2, 0, 1, 0, 1, 0, 1, 1, 2, 0, 1, 0, 1, 0, 1, 5, 2,
            6, 3, 0, 2, 5, 5, 2, 3, 1, 2, 1, 3, 1, 5, 2, 1, 0, 1, 0, 7, 3, 1, 4, 1, 2, 1, 4, 1, -2])


if __name__ == "__main__":
    unittest.main()
