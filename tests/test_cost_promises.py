"""cost against a second reckoning, and the promises that speak of the least cost."""

import itertools
import unittest

from collation.desk import cost
from tests import reckoning
from tests.reckoning import GAP, GAP_CELL, LOST
from tests.samples import rows


def words_in(row):
    return len([cell for cell in reckoning.read(row) if cell != GAP_CELL])


class EveryCollation(unittest.TestCase):
    def check_all(self, some):
        for x in some:
            for y in some:
                self.assertEqual(cost(x, y), reckoning.cost(x, y), (x, y))

    def test_rows_of_many_sorts_of_words(self):
        cells = (GAP_CELL, (), (1,), (LOST,), (1, 2), (1, LOST), (LOST, 2), (2, LOST), (LOST, LOST))
        self.check_all(rows(cells, 2))

    def test_rows_of_some_words(self):
        self.check_all(rows((GAP_CELL, (1,), (2,), (LOST,)), 3))

    def test_longer_rows_of_few_words(self):
        self.check_all(rows((GAP_CELL, (1,), (2,)), 4))

    def test_numbers_right_and_wrong(self):
        some = (0, 1, 2, 513, 2 ** 21, LOST, GAP)
        self.check_all([list(told) for n in range(4) for told in itertools.product(some, repeat=n)])


class LeastCost(unittest.TestCase):
    def test_there_is_always_a_collation(self):
        some = rows((GAP_CELL, (), (1,), (LOST,)), 3)
        for x in some:
            for y in some:
                answer = cost(x, y)
                self.assertEqual(len(answer), 1)
                self.assertIn(answer[0], range(3 * (words_in(x) + words_in(y)) + 1))

    def test_rows_exchanged(self):
        some = rows((GAP_CELL, (1,), (2,), (LOST,)), 3)
        for x, y in itertools.combinations(some, 2):
            self.assertEqual(cost(x, y), cost(y, x), (x, y))

    def test_without_gaps_and_lost_letters_0_just_if_the_same(self):
        some = rows(((), (1,), (2,), (1, 2)), 3)
        for x in some:
            for y in some:
                self.assertEqual(cost(x, y) == [0], x == y, (x, y))

    def test_without_gaps_and_lost_letters_never_more_than_by_a_third_row(self):
        some = rows(((), (1,), (2,)), 3)
        table = [[cost(x, y)[0] for y in some] for x in some]
        every = range(len(some))
        for x, y, z in itertools.product(every, every, every):
            self.assertLessEqual(table[x][z], table[x][y] + table[y][z], (some[x], some[y], some[z]))

    def test_longer_row_costs_at_most_3_more_for_each_word_more(self):
        some = rows((GAP_CELL, (1,), (LOST,)), 2)
        for begun, more, y in itertools.product(some, some, some):
            allowed = cost(begun, y)[0] + 3 * words_in(more)
            self.assertLessEqual(cost(begun + more, y)[0], allowed, (begun, more, y))
            self.assertLessEqual(cost(y, begun + more)[0], allowed, (begun, more, y))

    def test_beginning_of_a_longer_row_costs_at_most_3_more_for_each_word_cut(self):
        some = rows((GAP_CELL, (1,), (LOST,)), 2)
        for begun, more, y in itertools.product(some, rows(((1,), (2,), (LOST,)), 2), some):
            allowed = cost(begun + more, y)[0] + 3 * words_in(more)
            self.assertLessEqual(cost(begun, y)[0], allowed, (begun, more, y))


if __name__ == "__main__":
    unittest.main()
