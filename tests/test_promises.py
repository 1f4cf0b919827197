"""What the document promises over the whole program, for all the calls together."""

import itertools
import unittest

from collation.desk import cost, judge, moves, steps, through
from tests.reckoning import GAP_CELL, LOST, all_moves, costs, numbers, places, read
from tests.samples import rows

EXCHANGED = (0, 2, 1, 4, 3, 6, 5)
MIXED_ROWS = rows((GAP_CELL, (), (1,), (LOST,)), 2) + rows((GAP_CELL, (1,), (2,)), 3)[13:]
PLAIN_ROWS = rows(((), (1,), (2,)), 3)
FEW_ROWS = rows((GAP_CELL, (1,), (LOST,)), 2)


def mixed_pairs():
    return itertools.product(MIXED_ROWS, MIXED_ROWS)


def few_pairs():
    return itertools.product(FEW_ROWS, FEW_ROWS)


def all_places(x, y):
    return itertools.product(range(len(read(x)) + 1), range(len(read(y)) + 1))


class TheOneSentence(unittest.TestCase):
    def test_steps_told_are_the_first_of_the_least_of_all_collations(self):
        for x, y in mixed_pairs():
            known = costs(x, y)
            least = min(known.values())
            first = min(told for told, paid in known.items() if paid == least)
            self.assertEqual(steps(x, y), list(first), (x, y))
            self.assertEqual(judge(x, y, steps(x, y)), [least], (x, y))
            self.assertEqual(cost(x, y), [least], (x, y))

    def test_what_is_told_of_places_goes_with_them(self):
        for x, y in mixed_pairs():
            passed = places(steps(x, y))
            self.assertEqual(passed[-1], (len(read(x)), len(read(y))), (x, y))
            for i, j in passed:
                self.assertEqual(through(i, j, x, y), judge(x, y, steps(x, y)), (i, j, x, y))

    def test_what_is_told_of_moved_passages_goes_with_them(self):
        words = [(k,) for k in range(9)]
        y = numbers(*words)
        for count in (2, 3):
            for start, end in itertools.product(range(10 - count), range(10 - count)):
                # A passage shorter than what it was moved past is what is told missing and added.
                if abs(end - start) > count:
                    rest = words[:start] + words[start + count:]
                    x = numbers(*rest[:end], *words[start:start + count], *rest[end:])
                    self.assertEqual(moves(x, y, steps(x, y)), [end, start, count], (x, y))


class ACollationThereAlwaysIs(unittest.TestCase):
    def test_no_right_call_is_refused(self):
        for x, y in mixed_pairs():
            told = steps(x, y)
            self.assertTrue(all(0 <= step <= 6 for step in told), (x, y))
            answers = [cost(x, y), told, judge(x, y, told), moves(x, y, told)]
            answers.extend(through(i, j, x, y) for i, j in all_places(x, y))
            for answer in answers:
                self.assertTrue(all(number >= 0 for number in answer), (x, y, answer))

    def test_no_more_steps_than_both_rows_have_cells(self):
        for x, y in mixed_pairs():
            self.assertLessEqual(len(steps(x, y)), len(read(x)) + len(read(y)), (x, y))

    def test_more_steps_are_no_collation(self):
        for x, y in few_pairs():
            most = len(read(x)) + len(read(y))
            for told in costs(x, y):
                self.assertLessEqual(len(told), most)
                self.assertGreaterEqual(judge(x, y, list(told)), cost(x, y), (x, y, told))
                self.assertNotEqual(moves(x, y, list(told)), [-6], (x, y, told))
                for step in range(7):
                    more = list(told) + [step] * (most + 1 - len(told))
                    self.assertEqual(judge(x, y, more), [-6], (x, y, more))
                    self.assertEqual(moves(x, y, more), [-6], (x, y, more))


class RowsExchanged(unittest.TestCase):
    def test_least(self):
        for x, y in mixed_pairs():
            self.assertEqual(cost(x, y), cost(y, x), (x, y))
            exchanged = [EXCHANGED[step] for step in steps(x, y)]
            self.assertEqual(judge(y, x, exchanged), cost(y, x), (x, y))

    def test_every_collation(self):
        for x, y in few_pairs():
            for told in costs(x, y):
                exchanged = [EXCHANGED[step] for step in told]
                self.assertEqual(judge(y, x, exchanged), judge(x, y, list(told)), (x, y, told))

    def test_places(self):
        for x, y in few_pairs():
            for i, j in all_places(x, y):
                self.assertEqual(through(i, j, x, y), through(j, i, y, x), (i, j, x, y))

    def test_moves_there_are_some_or_none(self):
        some = rows(((1,), (2,)), 4)
        for x, y in itertools.product(some, some):
            told = [3] * len(read(x)) + [4] * len(read(y))
            exchanged = [EXCHANGED[step] for step in told]
            self.assertEqual(moves(x, y, told) == [], moves(y, x, exchanged) == [], (x, y))


class RowsWithoutGapsAndLostLetters(unittest.TestCase):
    def test_0_just_if_they_are_the_same(self):
        for x, y in itertools.product(PLAIN_ROWS, PLAIN_ROWS):
            self.assertEqual(cost(x, y) == [0], x == y, (x, y))
            self.assertEqual(judge(x, y, steps(x, y)) == [0], x == y, (x, y))
            if x == y:
                self.assertEqual(steps(x, y), [0] * len(read(x)), (x, y))

    def test_never_more_than_by_way_of_a_third_row(self):
        table = [[cost(x, y)[0] for y in PLAIN_ROWS] for x in PLAIN_ROWS]
        every = range(len(PLAIN_ROWS))
        for x, y, z in itertools.product(every, every, every):
            self.assertLessEqual(table[x][z], table[x][y] + table[y][z], (PLAIN_ROWS[x], PLAIN_ROWS[y]))


class WhatGoesThroughAPlace(unittest.TestCase):
    def test_the_two_parts_together_at_most(self):
        for x, y in mixed_pairs():
            x_cells, y_cells = read(x), read(y)
            for i, j in all_places(x, y):
                ahead = numbers(*x_cells[:i]), numbers(*y_cells[:j])
                behind = numbers(*x_cells[i:]), numbers(*y_cells[j:])
                # The parts' own steps, one behind another, are a collation of the whole.
                joined = steps(*ahead) + steps(*behind)
                parts = cost(*ahead)[0] + cost(*behind)[0]
                self.assertEqual(judge(x, y, joined), [parts], (i, j, x, y))
                self.assertLessEqual(through(i, j, x, y)[0], parts, (i, j, x, y))

    def test_the_least_is_the_least_over_all_j_for_each_i(self):
        for x, y in mixed_pairs():
            found = {}
            for i, j in all_places(x, y):
                found.setdefault(i, []).append(through(i, j, x, y))
            for i in found:
                self.assertEqual(min(found[i]), cost(x, y), (i, x, y))


class LongerRows(unittest.TestCase):
    def test_3_for_each_word_more_at_most(self):
        for begun, more, y in itertools.product(FEW_ROWS, FEW_ROWS, FEW_ROWS):
            words = len([cell for cell in read(more) if cell != GAP_CELL])
            self.assertLessEqual(cost(begun + more, y)[0], cost(begun, y)[0] + 3 * words, (begun, more, y))
            self.assertLessEqual(cost(y, begun + more)[0], cost(y, begun)[0] + 3 * words, (begun, more, y))
            # What is more, told missing, is a collation of the longer row.
            told = steps(begun, y) + [5 if cell == GAP_CELL else 3 for cell in read(more)]
            self.assertEqual(judge(begun + more, y, told), [cost(begun, y)[0] + 3 * words], (begun, more, y))


class Moves(unittest.TestCase):
    def test_they_share_no_word_and_none_is_left(self):
        some = rows(((1,), (2,)), 4)
        for x, y in itertools.product(some, some):
            for told in costs(x, y):
                answer = moves(x, y, list(told))
                starts = list(zip(answer[::3], answer[1::3], answer[2::3]))
                of_x = [cell for i, _, n in starts for cell in range(i, i + n)]
                of_y = [cell for _, j, n in starts for cell in range(j, j + n)]
                self.assertEqual(len(of_x), len(set(of_x)), (x, y, told))
                self.assertEqual(len(of_y), len(set(of_y)), (x, y, told))
                for left_of_x, left_of_y in all_moves(read(x), read(y), told):
                    self.assertTrue(set(left_of_x) & set(of_x) or set(left_of_y) & set(of_y), (x, y, told))


if __name__ == "__main__":
    unittest.main()
