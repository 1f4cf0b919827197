"""judge against a second reckoning, and beside what cost and steps answer."""

import itertools
import unittest

from collation.desk import cost, judge, steps
from tests import reckoning
from tests.reckoning import GAP, GAP_CELL, LOST
from tests.samples import rows

NUMBERS = (0, 1, 2, 3, 4, 5, 6, 7)


class EveryListOfSteps(unittest.TestCase):
    def check_all(self, some, most):
        lists = [list(told) for n in range(most + 1) for told in itertools.product(NUMBERS, repeat=n)]
        for x, y in itertools.product(some, some):
            known = reckoning.costs(x, y)
            for told in lists:
                self.assertEqual(judge(x, y, told), [known.get(tuple(told), -6)], (x, y, told))

    def test_small_rows_and_short_lists(self):
        self.check_all(rows((GAP_CELL, (1,), (LOST,)), 2), 4)

    def test_rows_of_many_sorts_of_words(self):
        cells = (GAP_CELL, (), (1,), (2,), (LOST,), (1, 2), (1, LOST), (LOST, 2), (2, LOST), (LOST, LOST))
        self.check_all(rows(cells, 1), 3)

    def test_every_collation_of_small_rows(self):
        some = rows((GAP_CELL, (1,), (2,)), 3)
        for x, y in itertools.product(some, some):
            for told, paid in reckoning.costs(x, y).items():
                self.assertEqual(judge(x, y, list(told)), [paid], (x, y, told))
                self.assertEqual(judge(x, y, list(told) + [0]), [-6], (x, y, told))
                if told:
                    self.assertEqual(judge(x, y, list(told[:-1])), [-6], (x, y, told))

    def test_numbers_right_and_wrong(self):
        some = [list(told) for n in range(3) for told in itertools.product((0, 1, 513, LOST, GAP), repeat=n)]
        lists = [list(told) for n in range(3) for told in itertools.product(NUMBERS, repeat=n)]
        for x, y, told in itertools.product(some, some, lists):
            self.assertEqual(judge(x, y, told), reckoning.judge(x, y, told), (x, y, told))


class BesideTheOtherCalls(unittest.TestCase):
    def test_what_steps_answers_costs_what_cost_answers(self):
        some = rows((GAP_CELL, (), (1,), (LOST,)), 3)
        for x, y in itertools.product(some, some):
            self.assertEqual(judge(x, y, steps(x, y)), cost(x, y), (x, y))

    def test_no_collation_costs_less_than_the_least(self):
        some = rows((GAP_CELL, (1,), (2,)), 2)
        for x, y in itertools.product(some, some):
            for told in reckoning.costs(x, y):
                self.assertGreaterEqual(judge(x, y, list(told)), cost(x, y), (x, y, told))


if __name__ == "__main__":
    unittest.main()
