"""moves against a second reckoning, and the promise that speaks of moves."""

import itertools
import random
import unittest

from collation.desk import moves
from tests import reckoning
from tests.reckoning import GAP, GAP_CELL, LOST, all_moves, costs, moves_of, next_steps, numbers, read
from tests.samples import rows


def draw_collation(draw, x, y):
    """Some collation of the cells x and y, of steps 3 and 4 above all, in runs."""
    told, last = [], None
    while x or y:
        choices = {step: (takes_x, takes_y) for step, takes_x, takes_y, _ in next_steps(x, y, last)}
        step = draw.choice(sorted(choices) + [each for each in choices if each in (3, 4)])
        if last in (3, 4) and last in choices and draw.randrange(4):
            step = last
        x, y = x[choices[step][0]:], y[choices[step][1]:]
        told.append(step)
        last = step
    return told


def draw_calls(count):
    """Rows as cells with some collation of them."""
    draw = random.Random(22)
    sorts = (((1,),), ((1,), (2,)), ((1,), (2,), GAP_CELL), ((), (1,), (2,), (3,)), ((1,), (2,), (LOST,)))
    for n in range(count):
        cells = sorts[n % len(sorts)]
        x = tuple(draw.choice(cells) for _ in range(draw.randrange(16)))
        y = tuple(draw.choice(cells) for _ in range(draw.randrange(16)))
        yield x, y, draw_collation(draw, x, y)


class AgainstTheSecondReckoning(unittest.TestCase):
    def check_all_collations(self, some):
        for x, y in itertools.product(some, some):
            for told in costs(x, y):
                self.assertEqual(moves(x, y, list(told)), moves_of(read(x), read(y), told), (x, y, told))

    def test_every_collation_of_small_rows(self):
        self.check_all_collations(rows((GAP_CELL, (1,), (LOST,)), 3))

    def test_every_collation_of_rows_of_words(self):
        self.check_all_collations(rows(((1,), (2,)), 4))

    def test_every_list_of_steps(self):
        some = rows((GAP_CELL, (1,)), 2)
        for n in range(5):
            for told in itertools.product(range(8), repeat=n):
                for x, y in itertools.product(some, some):
                    self.assertEqual(moves(x, y, list(told)), reckoning.moves(x, y, told), (x, y, told))

    def test_numbers_right_and_wrong(self):
        some = [list(told) for n in range(3) for told in itertools.product((0, 1, 513, LOST, GAP), repeat=n)]
        for x, y in itertools.product(some, some):
            for told in ([], [0], [3, 3, 4, 4], [4, 4, 3, 3], [3, 3], [5, 6], [9]):
                self.assertEqual(moves(x, y, told), reckoning.moves(x, y, told), (x, y, told))

    def test_all_rows_of_words_missing_and_added(self):
        some = rows(((1,), (2,)), 6)
        for x, y in itertools.product(some, some):
            cells = read(x), read(y)
            told = [3] * len(cells[0]) + [4] * len(cells[1])
            self.assertEqual(moves(x, y, told), moves_of(*cells, told), (x, y))

    def test_longer_rows(self):
        for x, y, told in draw_calls(4000):
            self.assertEqual(moves(numbers(*x), numbers(*y), told), moves_of(x, y, told), (x, y, told))


class PromiseOfMoves(unittest.TestCase):
    def test_they_share_no_word_and_none_is_left(self):
        seen = 0
        for x, y, told in draw_calls(4000):
            answer = moves(numbers(*x), numbers(*y), told)
            of_x, of_y = [], []
            for i, j, n in zip(answer[::3], answer[1::3], answer[2::3]):
                of_x.extend(range(i, i + n))
                of_y.extend(range(j, j + n))
                self.assertIn((list(range(i, i + n)), list(range(j, j + n))), list(all_moves(x, y, told)))
            self.assertEqual(len(set(of_x)), len(of_x), (x, y, told))
            self.assertEqual(len(set(of_y)), len(of_y), (x, y, told))
            for left_of_x, left_of_y in all_moves(x, y, told):
                self.assertTrue(set(left_of_x) & set(of_x) or set(left_of_y) & set(of_y), (x, y, told))
            seen += len(answer) // 3
        # The rows drawn have moves enough to tell of.
        self.assertGreater(seen, 2000)

    def test_each_is_no_greater_than_those_told_before(self):
        for x, y, told in draw_calls(2000):
            counts = moves(numbers(*x), numbers(*y), told)[2::3]
            self.assertEqual(counts, sorted(counts, reverse=True), (x, y, told))
            self.assertTrue(all(n >= 2 for n in counts), (x, y, told))


if __name__ == "__main__":
    unittest.main()
