"""judge: each step where it may and may not stand, the ends, wrong numbers, and what is handed in."""

import unittest

from collation.desk import cost, judge, steps
from tests.reckoning import GAP, GAP_CELL, LOST, numbers
from tests.samples import A, B, C, D, NO_ROWS

GREATEST = 2 ** 64 - 1


class JudgeCase(unittest.TestCase):
    def check(self, expected, x, y, told):
        """The steps told of x and y, as cells, are judged so."""
        self.assertEqual(judge(numbers(*x), numbers(*y), told), [expected], (x, y, told))

    def refused(self, x, y, told):
        self.check(-6, x, y, told)


class StepsWhereTheyMayStand(JudgeCase):
    def test_answer_is_a_list_of_one_whole_number(self):
        for told in ([0], [3, 4], [], [7]):
            answer = judge([1, 5], [1, 6], told)
            self.assertIs(type(answer), list)
            self.assertEqual([type(number) for number in answer], [int])

    def test_pair(self):
        self.check(0, [A], [A], [0])
        self.check(0, [()], [()], [0])
        self.check(1, [A], [(1, LOST)], [0])
        self.check(1, [(LOST, 2)], [A], [0])
        self.check(1, [(LOST, 2)], [(LOST, 2)], [0])
        self.check(4, [A], [B], [0])
        self.check(4, [A], [(1,)], [0])
        self.check(4, [()], [(LOST,)], [0])
        self.check(5, [A, A, A], [A, B, (LOST, LOST)], [0, 0, 0])

    def test_lost(self):
        self.check(0, [A], [GAP_CELL], [6, 1])
        self.check(0, [A, (), B], [GAP_CELL], [6, 1, 1, 1])
        self.check(0, [A, B], [GAP_CELL, GAP_CELL], [6, 1, 6, 1])
        self.check(0, [A, B], [A, GAP_CELL], [0, 6, 1])
        self.check(0, [GAP_CELL, A], [GAP_CELL], [5, 6, 1])

    def test_spared(self):
        self.check(0, [GAP_CELL], [A], [5, 2])
        self.check(0, [GAP_CELL], [A, (), B], [5, 2, 2, 2])
        self.check(0, [GAP_CELL, GAP_CELL], [A, B], [5, 2, 5, 2])
        self.check(0, [A, GAP_CELL], [A, B], [0, 5, 2])
        self.check(0, [GAP_CELL], [GAP_CELL, A], [6, 5, 2])

    def test_missing(self):
        self.check(3, [A], [], [3])
        self.check(3, [()], [], [3])
        self.check(6, [A, B], [], [3, 3])
        self.check(3, [A], [GAP_CELL], [3, 6])
        self.check(3, [A], [GAP_CELL], [6, 3])
        self.check(3, [GAP_CELL, A], [], [5, 3])
        self.check(3, [A, B], [GAP_CELL], [6, 1, 3])

    def test_added(self):
        self.check(3, [], [A], [4])
        self.check(3, [], [()], [4])
        self.check(6, [], [A, B], [4, 4])
        self.check(3, [GAP_CELL], [A], [4, 5])
        self.check(3, [GAP_CELL], [A], [5, 4])
        self.check(3, [], [GAP_CELL, A], [6, 4])
        self.check(3, [GAP_CELL], [A, B], [5, 2, 4])

    def test_gaps(self):
        self.check(0, [GAP_CELL], [], [5])
        self.check(0, [], [GAP_CELL], [6])
        self.check(0, [GAP_CELL], [GAP_CELL], [5, 6])
        self.check(0, [GAP_CELL], [GAP_CELL], [6, 5])
        self.check(0, [GAP_CELL] * 2, [GAP_CELL] * 2, [5, 6, 6, 5])

    def test_collations_that_are_not_the_least(self):
        self.check(6, [A], [A], [3, 4])
        self.check(6, [A], [A], [4, 3])
        self.check(7, [A, B], [A], [3, 0])
        self.check(12, [A, B], [A, B], [3, 3, 4, 4])
        self.check(6, [A, GAP_CELL], [GAP_CELL, B], [3, 5, 6, 4])

    def test_all_steps_in_one(self):
        x = [A, B, (1, LOST), GAP_CELL, C]
        y = [A, C, (LOST, 2), D, GAP_CELL]
        self.check(0 + 3 + 3 + 1 + 0 + 0 + 0 + 0, x, y, [0, 3, 4, 0, 5, 2, 6, 1])


class StepsWhereTheyMayNotStand(JudgeCase):
    def test_no_cell_left_in_its_row(self):
        self.refused([], [], [0])
        self.refused([A], [], [0])
        self.refused([], [A], [0])
        self.refused([], [GAP_CELL], [6, 1])
        self.refused([GAP_CELL], [], [5, 2])
        self.refused([], [A], [3])
        self.refused([A], [], [4])
        self.refused([], [GAP_CELL], [5])
        self.refused([GAP_CELL], [], [6])
        self.refused([A], [A, A], [0, 0])
        self.refused([A, A], [A], [0, 0])

    def test_gap_where_a_word_is_asked_for(self):
        self.refused([GAP_CELL], [A], [0])
        self.refused([A], [GAP_CELL], [0])
        self.refused([GAP_CELL], [GAP_CELL], [0])
        self.refused([GAP_CELL], [GAP_CELL], [6, 1])
        self.refused([GAP_CELL], [GAP_CELL], [5, 2])
        self.refused([GAP_CELL], [], [3])
        self.refused([], [GAP_CELL], [4])

    def test_word_where_a_gap_is_asked_for(self):
        for word in (A, (), (LOST,)):
            self.refused([word], [], [5])
            self.refused([], [word], [6])
            self.refused([word], [GAP_CELL], [5, 6])
            self.refused([GAP_CELL], [word], [6, 5])

    def test_lost_only_right_behind_the_others_gap_or_a_lost_word(self):
        self.refused([A], [], [1])
        self.refused([A], [GAP_CELL], [1, 6])
        self.refused([A, B], [A], [0, 1])
        self.refused([A, B], [GAP_CELL, A], [6, 0, 1])
        self.refused([GAP_CELL, A], [B], [5, 2, 1])
        self.refused([A, B], [], [3, 1])
        self.refused([A, B], [GAP_CELL], [6, 3, 1])
        self.refused([A], [B], [4, 1])
        self.refused([A], [GAP_CELL, B], [6, 4, 1])
        self.refused([GAP_CELL, A], [], [5, 1])
        self.refused([GAP_CELL, A], [GAP_CELL], [6, 5, 1])

    def test_spared_only_right_behind_the_bases_gap_or_a_spared_word(self):
        self.refused([], [A], [2])
        self.refused([GAP_CELL], [A], [2, 5])
        self.refused([A], [A, B], [0, 2])
        self.refused([GAP_CELL, A], [A, B], [5, 0, 2])
        self.refused([B], [GAP_CELL, A], [6, 1, 2])
        self.refused([], [A, B], [4, 2])
        self.refused([GAP_CELL], [A, B], [5, 4, 2])
        self.refused([B], [A], [3, 2])
        self.refused([GAP_CELL, B], [A], [5, 3, 2])
        self.refused([], [GAP_CELL, A], [6, 2])
        self.refused([GAP_CELL], [GAP_CELL, A], [5, 6, 2])

    def test_numbers_that_are_no_step(self):
        for number in (7, 8, 255, 256, 2 ** 32 - 1, 2 ** 63, GREATEST):
            self.refused([], [], [number])
            self.refused([A], [A], [number])
            self.refused([A], [A], [0, number])
            self.refused([A], [A], [number, 0])
            self.refused([GAP_CELL], [GAP_CELL], [5, number, 6])


class Ends(JudgeCase):
    def test_rows_without_cells(self):
        self.check(0, [], [], [])
        for step in (0, 1, 2, 3, 4, 5, 6, 7, GREATEST):
            self.refused([], [], [step])
            self.refused([], [], [step, step])

    def test_steps_end_ahead_of_the_end_of_x(self):
        self.refused([A], [], [])
        self.refused([GAP_CELL], [], [])
        self.refused([A, B], [A], [0])
        self.refused([A, GAP_CELL], [A], [0])
        self.refused([A, B], [GAP_CELL], [6, 1])

    def test_steps_end_ahead_of_the_end_of_y(self):
        self.refused([], [A], [])
        self.refused([], [GAP_CELL], [])
        self.refused([A], [A, B], [0])
        self.refused([A], [A, GAP_CELL], [0])
        self.refused([GAP_CELL], [A, B], [5, 2])

    def test_steps_end_ahead_of_both_ends(self):
        self.refused([A], [A], [])
        self.refused([GAP_CELL], [GAP_CELL], [])
        self.refused([A, B], [A, B], [0])
        self.refused([A, GAP_CELL], [A, GAP_CELL], [0])

    def test_steps_left_over(self):
        for step in (0, 1, 2, 3, 4, 5, 6, 7, GREATEST):
            self.refused([A], [A], [0, step])
            self.refused([GAP_CELL], [A], [5, 2, step])
            self.refused([A], [GAP_CELL], [6, 1, step])
            self.refused([GAP_CELL], [GAP_CELL], [5, 6, step])


class WrongNumbers(unittest.TestCase):
    def test_no_row_in_x_in_y_in_both(self):
        for told in ([], [0], [3], [4], [7], [GREATEST], [1, 2, 1]):
            for wrong in NO_ROWS:
                for right in ([], [0], [GAP], numbers(A, GAP_CELL, B)):
                    self.assertEqual(judge(wrong, right, told), [-1], wrong[:4])
                    self.assertEqual(judge(right, wrong, told), [-1], wrong[:4])
                for other in NO_ROWS:
                    self.assertEqual(judge(wrong, other, told), [-1], (wrong[:4], other[:4]))

    def test_too_many_cells_or_numbers(self):
        self.assertEqual(judge([0] * 4096, [], [3] * 4096), [3 * 4096])
        for told in ([], [3] * 4097, [7]):
            for many in ([0] * 4097, [GAP] * 4097):
                self.assertEqual(judge(many, [], told), [-2])
                self.assertEqual(judge([], many, told), [-2])
                self.assertEqual(judge(many, [513], told), [-2])
                self.assertEqual(judge([513], many, told), [-1])
            self.assertEqual(judge([GAP] * 1048577, [], told), [-1])


class HandedIn(unittest.TestCase):
    def test_lists_stay_and_a_second_call_answers_as_the_first(self):
        lists = [numbers(A, GAP_CELL), numbers(A), [0, 5], [3, 5], [0], [7], [], [513]]
        before = [list(each) for each in lists]
        first = [judge(x, y, s) for x in lists for y in lists for s in lists]
        self.assertEqual(lists, before)
        self.assertEqual([judge(x, y, s) for x in lists for y in lists for s in lists], first)
        self.assertEqual(lists, before)

    def test_answer_may_be_changed_without_harm(self):
        for told in ([3], [4], []):
            answer = judge([1, 5], [], told)
            expected = list(answer)
            answer.append(9)
            self.assertEqual(judge([1, 5], [], told), expected)

    def test_one_list_as_both_rows_and_steps(self):
        told = [0, 0]
        self.assertEqual(judge(told, told, told), [0])
        self.assertEqual(told, [0, 0])


class LongRows(JudgeCase):
    def test_words(self):
        self.check(0, [()] * 1000, [()] * 1000, [0] * 1000)
        self.check(3 * 1500, [()] * 1500, [], [3] * 1500)
        self.check(3 * 1500, [], [()] * 1500, [4] * 1500)
        self.check(3 * 1500, [()] * 750, [()] * 750, [3, 4] * 750)
        self.check(4 * 600, [(k,) for k in range(600)], [(k + 1,) for k in range(600)], [0] * 600)

    def test_gaps(self):
        self.check(0, [GAP_CELL] * 750, [GAP_CELL] * 750, [5, 6] * 750)
        self.check(0, [GAP_CELL], [()] * 1499, [5] + [2] * 1499)
        self.check(0, [()] * 1499, [GAP_CELL], [6] + [1] * 1499)

    def test_no_collation(self):
        self.refused([()] * 1000, [()] * 1000, [0] * 999 + [3])
        self.refused([()] * 1000, [()] * 1000, [0] * 999 + [GREATEST])
        self.refused([()] * 1000, [()] * 999, [0] * 1000)
        self.refused([], [], [0] * 3000)
        self.refused([()] * 1500, [()] * 1500, [])

    def test_what_steps_answers(self):
        x = [(), GAP_CELL, (1,), (LOST,)] * 90
        y = [(1,), (2,), GAP_CELL, ()] * 90
        told = steps(numbers(*x), numbers(*y))
        self.assertEqual(judge(numbers(*x), numbers(*y), told), cost(numbers(*x), numbers(*y)))


if __name__ == "__main__":
    unittest.main()
