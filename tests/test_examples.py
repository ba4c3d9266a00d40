import unittest

from tests.support import (ask, create, distance, distribution, min_cost, optimal_plan,
                           set_distribution, set_edge)

# The rows of the document's table that use the calls 0 to 6. Its average(0, 1, 2) is
# not among them; a set_distribution with the same outcome stands in its place.
ROWS = [
    (create(3), [0]),
    (set_edge(0, 1, 2), [0]),
    (min_cost(0, 1), [-33]),
    (set_edge(1, 2, 3), [0]),
    (distance(0, 2), [5]),
    (set_distribution(0, [1, 1, 0]), [0]),
    (set_distribution(1, [0, 1, 1]), [0]),
    (min_cost(0, 1), [0, 5, 2]),
    (optimal_plan(0, 1), [9, 0, 1, 1, 2, 0, 1, 0, 1, 0, 1, 1, 2, 0, 1, 0, 1, 0, 1, 5, 2]),
    (set_distribution(2, [1, 2, 1]), [0]),
    (distribution(2), [3, 1, 4, 1, 2, 1, 4]),
    (set_distribution(4, [1, 1, 1]), [-2]),
]


class Examples(unittest.TestCase):
    def test_table(self):
        given = ask(*[call for call, answer in ROWS])
        for (call, expected), answer in zip(ROWS, given):
            with self.subTest(call=call):
                self.assertEqual(answer, expected)


if __name__ == "__main__":
    unittest.main()
