"""steps against a second reckoning, and the promises that speak of the collation told."""

import itertools
import random
import unittest

from collation.desk import cost, steps
from tests import reckoning
from tests.reckoning import GAP, GAP_CELL, LOST, follow, least_by_parts, numbers, read
from tests.samples import rows

EXCHANGED = (0, 2, 1, 4, 3, 6, 5)


class EveryCollation(unittest.TestCase):
    def check_all(self, some):
        for x in some:
            for y in some:
                self.assertEqual(steps(x, y), reckoning.steps(x, y), (x, y))

    def test_rows_of_many_sorts_of_words(self):
        cells = (GAP_CELL, (), (1,), (LOST,), (1, 2), (1, LOST), (LOST, 2), (2, LOST), (LOST, LOST))
        self.check_all(rows(cells, 2))

    def test_rows_of_some_words(self):
        self.check_all(rows((GAP_CELL, (1,), (2,), (LOST,)), 3))

    def test_longer_rows_of_few_words(self):
        self.check_all(rows((GAP_CELL, (1,), (2,)), 4))

    def test_rows_of_gaps_and_one_word(self):
        self.check_all(rows((GAP_CELL, ()), 5))

    def test_numbers_right_and_wrong(self):
        some = (0, 1, 2, 513, 2 ** 21, LOST, GAP)
        self.check_all([list(told) for n in range(4) for told in itertools.product(some, repeat=n)])


class LongerRows(unittest.TestCase):
    def test_against_a_reckoning_by_parts(self):
        draw = random.Random(20)
        sorts = ((GAP_CELL, (1,)), (GAP_CELL, (1,), (2,)), ((1,), (2,)), (GAP_CELL, (1,), (2,), (LOST,), (1, LOST)))
        for n in range(600):
            cells = sorts[n % len(sorts)]
            x = tuple(draw.choice(cells) for _ in range(draw.randrange(13)))
            y = tuple(draw.choice(cells) for _ in range(draw.randrange(13)))
            paid, told = least_by_parts(x, y)
            self.assertEqual(steps(numbers(*x), numbers(*y)), list(told), (x, y))
            self.assertEqual(cost(numbers(*x), numbers(*y)), [paid], (x, y))


class StepsTold(unittest.TestCase):
    def setUp(self):
        self.some = rows((GAP_CELL, (), (1,), (LOST,)), 3)

    def test_they_are_a_collation_that_costs_what_cost_answers(self):
        for x, y in itertools.product(self.some, self.some):
            self.assertEqual([follow(read(x), read(y), steps(x, y))], cost(x, y), (x, y))

    def test_no_more_than_both_rows_have_cells(self):
        for x, y in itertools.product(self.some, self.some):
            self.assertLessEqual(len(steps(x, y)), len(read(x)) + len(read(y)), (x, y))

    def test_exchanged_they_are_a_least_collation_of_the_rows_exchanged(self):
        for x, y in itertools.product(self.some, self.some):
            exchanged = [EXCHANGED[step] for step in steps(x, y)]
            self.assertEqual([follow(read(y), read(x), exchanged)], cost(y, x), (x, y))


if __name__ == "__main__":
    unittest.main()
