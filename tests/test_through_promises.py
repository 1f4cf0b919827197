"""through against a second reckoning, and the promises that speak of places."""

import itertools
import random
import unittest

from collation.desk import cost, steps, through
from tests import reckoning
from tests.reckoning import GAP, GAP_CELL, LOST, leasts_through_by_parts, numbers, places, read
from tests.samples import rows


class EveryCollation(unittest.TestCase):
    def check_all(self, some):
        """All places of all pairs of rows, and the places right above their cells."""
        for x, y in itertools.product(some, some):
            leasts = reckoning.leasts_through(x, y)
            for i in range(len(read(x)) + 2):
                for j in range(len(read(y)) + 2):
                    self.assertEqual(through(i, j, x, y), [leasts.get((i, j), -4)], (i, j, x, y))

    def test_rows_of_many_sorts_of_words(self):
        cells = (GAP_CELL, (), (1,), (LOST,), (1, 2), (1, LOST), (LOST, 2), (LOST, LOST))
        self.check_all(rows(cells, 2))

    def test_rows_of_some_words(self):
        self.check_all(rows((GAP_CELL, (1,), (LOST,)), 3))

    def test_rows_of_gaps_and_one_word(self):
        self.check_all(rows((GAP_CELL, ()), 4))

    def test_numbers_right_and_wrong(self):
        some = [list(told) for n in range(3) for told in itertools.product((0, 1, 513, LOST, GAP), repeat=n)]
        for i, j, x, y in itertools.product(range(4), range(4), some, some):
            self.assertEqual(through(i, j, x, y), reckoning.through(i, j, x, y), (i, j, x, y))


class LongerRows(unittest.TestCase):
    def test_against_a_reckoning_by_parts(self):
        draw = random.Random(21)
        sorts = ((GAP_CELL, (1,)), (GAP_CELL, (1,), (2,)), ((1,), (2,)), (GAP_CELL, (1,), (2,), (LOST,), (1, LOST)))
        for n in range(120):
            cells = sorts[n % len(sorts)]
            x = tuple(draw.choice(cells) for _ in range(draw.randrange(10)))
            y = tuple(draw.choice(cells) for _ in range(draw.randrange(10)))
            leasts = leasts_through_by_parts(x, y)
            self.assertEqual(len(leasts), (len(x) + 1) * (len(y) + 1))
            for (i, j), least in leasts.items():
                self.assertEqual(through(i, j, numbers(*x), numbers(*y)), [least], (i, j, x, y))


class PromisesOfPlaces(unittest.TestCase):
    def setUp(self):
        self.some = rows((GAP_CELL, (), (1,), (LOST,)), 2) + rows((GAP_CELL, (1,), (2,)), 3)[13:]

    def pairs(self):
        """Pairs of rows, with the numbers of their cells."""
        for x, y in itertools.product(self.some, self.some):
            yield x, y, range(len(read(x)) + 1), range(len(read(y)) + 1)

    def test_the_least_over_all_j_for_each_i(self):
        for x, y, taken_of_x, taken_of_y in self.pairs():
            least = cost(x, y)
            for i in taken_of_x:
                self.assertEqual(min(through(i, j, x, y) for j in taken_of_y), least, (i, x, y))

    def test_the_least_over_all_i_for_each_j(self):
        for x, y, taken_of_x, taken_of_y in self.pairs():
            least = cost(x, y)
            for j in taken_of_y:
                self.assertEqual(min(through(i, j, x, y) for i in taken_of_x), least, (j, x, y))

    def test_at_most_the_least_of_the_two_parts_together(self):
        for x, y, taken_of_x, taken_of_y in self.pairs():
            x_cells, y_cells = read(x), read(y)
            for i, j in itertools.product(taken_of_x, taken_of_y):
                ahead = cost(numbers(*x_cells[:i]), numbers(*y_cells[:j]))[0]
                behind = cost(numbers(*x_cells[i:]), numbers(*y_cells[j:]))[0]
                self.assertLessEqual(through(i, j, x, y)[0], ahead + behind, (i, j, x, y))

    def test_what_steps_answers_goes_through_places_of_the_least_cost(self):
        for x, y, _, _ in self.pairs():
            least = cost(x, y)
            for i, j in places(steps(x, y)):
                self.assertEqual(through(i, j, x, y), least, (i, j, x, y))

    def test_rows_and_places_exchanged(self):
        for x, y, taken_of_x, taken_of_y in self.pairs():
            for i, j in itertools.product(taken_of_x, taken_of_y):
                self.assertEqual(through(i, j, x, y), through(j, i, y, x), (i, j, x, y))


if __name__ == "__main__":
    unittest.main()
