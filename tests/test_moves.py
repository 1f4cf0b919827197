"""moves: runs, the order in which moves are told, the edges, refusals, and what is handed in."""

import unittest

from collation.desk import moves, steps
from tests.reckoning import GAP, GAP_CELL, LOST, numbers
from tests.samples import A, B, C, D, NO_ROWS

E, F = (9, 10), (11, 12)
GREATEST = 2 ** 64 - 1


class MovesCase(unittest.TestCase):
    def check(self, expected, x, y, told):
        """The moves of the collation told of x and y, as cells."""
        self.assertEqual(moves(numbers(*x), numbers(*y), told), expected, (x, y, told))

    def refused(self, x, y, told):
        self.check([-6], x, y, told)


class OrdinaryMoves(MovesCase):
    def test_answer_is_a_list_of_whole_numbers(self):
        for told in ([3, 3, 4, 4], [0, 0], [0]):
            answer = moves(numbers(A, B), numbers(A, B), told)
            self.assertIs(type(answer), list)
            self.assertEqual([type(number) for number in answer], [int] * len(answer))

    def test_to_the_right(self):
        self.check([0, 1, 2], [A, B, C], [C, A, B], [3, 3, 0, 4, 4])
        self.check([0, 2, 2], [A, B, C, D], [C, D, A, B], [3, 3, 0, 0, 4, 4])
        self.check([1, 2, 3], [D, A, B, C, E], [D, E, A, B, C], [0, 3, 3, 3, 0, 4, 4, 4])

    def test_to_the_left(self):
        self.check([1, 0, 2], [C, A, B], [A, B, C], [4, 4, 0, 3, 3])
        self.check([2, 0, 2], [C, D, A, B], [A, B, C, D], [4, 4, 0, 0, 3, 3])
        self.check([2, 1, 3], [D, E, A, B, C], [D, A, B, C, E], [0, 4, 4, 4, 0, 3, 3, 3])

    def test_right_beside_one_another(self):
        self.check([0, 0, 2], [A, B], [A, B], [3, 3, 4, 4])
        self.check([0, 0, 2], [A, B], [A, B], [4, 4, 3, 3])

    def test_none(self):
        self.check([], [A, B], [A, B], [0, 0])
        self.check([], [A, B], [C, D], [3, 3, 4, 4])
        self.check([], [A, B], [B, A], [3, 3, 4, 4])
        self.check([], [A, B], [], [3, 3])
        self.check([], [], [A, B], [4, 4])
        self.check([], [A, B, A, B], [A, B], [0, 0, 3, 3])
        self.check([], [A, B], [A, B, A, B], [4, 4, 0, 0])

    def test_of_what_steps_answers(self):
        x = numbers(A, B, C, D, E, F)
        y = numbers(C, D, E, F, A, B)
        self.assertEqual(steps(x, y), [3, 3, 0, 0, 0, 0, 4, 4])
        self.assertEqual(moves(x, y, steps(x, y)), [0, 4, 2])

    def test_part_of_a_run(self):
        self.check([1, 2, 2], [C, A, B, D], [E, F, A, B], [3, 3, 3, 3, 4, 4, 4, 4])
        self.check([0, 1, 2], [A, B, C], [D, A, B], [3, 3, 3, 4, 4, 4])
        self.check([1, 0, 2], [C, A, B], [A, B, D], [3, 3, 3, 4, 4, 4])

    def test_several(self):
        self.check([0, 3, 2, 3, 0, 2], [A, B, E, C, D], [C, D, E, A, B], [3, 3, 4, 4, 0, 3, 3, 4, 4])
        self.check([2, 0, 3, 0, 3, 2], [A, B, C, D, E], [C, D, E, A, B], [3] * 5 + [4] * 5)
        x, y = [A, B, C, D, E, F], [E, F, C, D, A, B]
        self.check([0, 4, 2, 2, 2, 2, 4, 0, 2], x, y, [3] * 6 + [4] * 6)

    def test_cells_of_every_kind_stand_before(self):
        x = [GAP_CELL, (), D, A, B]
        y = [A, B, D, E, GAP_CELL]
        self.check([3, 0, 2], x, y, [4, 4, 5, 3, 0, 3, 3, 4, 6])
        x = [GAP_CELL, GAP_CELL, E, (), A, B]
        y = [(), GAP_CELL, F, C, A, B]
        self.check([4, 4, 2], x, y, [5, 5, 2, 6, 1, 0, 3, 3, 4, 4, 4])


class Runs(MovesCase):
    def test_one_word_alone_is_no_move(self):
        self.check([], [A], [A], [3, 4])
        self.check([], [A], [A], [4, 3])
        self.check([], [A, B], [B, A], [3, 0, 4])
        self.check([], [A, B, C], [A, D, C], [3, 3, 3, 4, 4, 4])

    def test_step_4_between_steps_3(self):
        self.check([], [A, B], [A, B], [3, 4, 3, 4])
        self.check([], [A, B], [A, B], [3, 4, 4, 3])
        self.check([], [A, B], [C, A, B], [3, 4, 3, 4, 4])
        self.check([1, 1, 2], [A, A, B], [C, A, B], [3, 4, 3, 3, 4, 4])

    def test_step_3_between_steps_4(self):
        self.check([], [A, B], [A, B], [4, 3, 4, 3])
        self.check([], [A, B], [A, B], [4, 3, 3, 4])
        self.check([], [C, A, B], [A, B], [4, 3, 4, 3, 3])
        self.check([1, 1, 2], [C, A, B], [A, A, B], [4, 3, 4, 4, 3, 3])

    def test_run_of_x_parted_by_another_step(self):
        # Each time C, a gap or a step of y's row parts A from B in x, which stand together in y.
        self.check([], [A, C, B], [C, A, B], [3, 0, 3, 4, 4])
        self.check([], [A, GAP_CELL, B], [A, B], [3, 5, 3, 4, 4])
        self.check([], [A, B], [GAP_CELL, A, B], [3, 6, 3, 4, 4])
        self.check([], [A, C, B], [GAP_CELL, A, B], [6, 1, 3, 3, 4, 4])
        self.check([], [GAP_CELL, A, B], [C, A, B], [5, 2, 3, 4, 3, 4])
        self.check([], [A, GAP_CELL, B], [C, A, B], [3, 5, 2, 3, 4, 4])
        self.check([], [A, C, B], [GAP_CELL, A, B], [3, 6, 1, 3, 4, 4])

    def test_run_of_y_parted_by_another_step(self):
        self.check([], [C, A, B], [A, C, B], [4, 0, 4, 3, 3])
        self.check([], [A, B], [A, GAP_CELL, B], [4, 6, 4, 3, 3])
        self.check([], [GAP_CELL, A, B], [A, B], [4, 5, 4, 3, 3])
        self.check([], [GAP_CELL, A, B], [A, C, B], [4, 5, 2, 4, 3, 3])
        self.check([], [C, A, B], [A, GAP_CELL, B], [4, 6, 1, 4, 3, 3])

    def test_words_of_two_runs_are_no_move_of_one(self):
        self.check([], [A, C, B], [A, C, B], [3, 4, 0, 3, 4])
        self.check([0, 0, 2, 3, 2, 2], [A, B, E, C, D], [A, B, C, D, E], [3, 3] + [4] * 4 + [0, 3, 3])
        self.check([0, 0, 2, 2, 3, 2], [A, B, C, D, E], [A, B, E, C, D], [3, 3, 3, 3, 4, 4, 0, 4, 4])

    def test_longer_by_words_that_are_in_no_run(self):
        # C stands behind A and B in both rows, but it is paired in one of them or in both.
        self.check([0, 2, 2], [A, B, C], [D, C, A, B, C], [3, 3, 4, 0, 4, 4, 4])
        self.check([2, 0, 2], [D, C, A, B, C], [A, B, C], [4, 4, 3, 0, 3, 3, 3])
        self.check([0, 0, 2], [A, B, C], [A, B, C], [3, 3, 4, 4, 0])
        self.check([1, 1, 2], [C, A, B], [C, A, B], [0, 3, 3, 4, 4])

    def test_lost_and_spared_words_are_in_no_run(self):
        self.check([], [A, B], [GAP_CELL, A, B], [6, 1, 1, 4, 4])
        self.check([], [GAP_CELL, A, B], [A, B], [5, 2, 2, 3, 3])
        self.check([1, 1, 2], [A, B, C], [GAP_CELL, B, C], [6, 1, 3, 3, 4, 4])
        self.check([1, 1, 2], [GAP_CELL, B, C], [A, B, C], [5, 2, 4, 4, 3, 3])


class WordsAlike(MovesCase):
    def test_words_with_lost_letters(self):
        for word in ((LOST,), (1, LOST), (LOST, 2), (LOST, LOST)):
            self.check([], [word, word], [word, word], [3, 3, 4, 4])
            self.check([], [A, word], [A, word], [3, 3, 4, 4])
            self.check([], [word, A], [word, A], [3, 3, 4, 4])
            self.check([], [A, word, B], [A, word, B], [3, 3, 3, 4, 4, 4])
            self.check([0, 0, 2], [A, B, word], [A, B, word], [3, 3, 3, 4, 4, 4])
            self.check([1, 1, 2], [word, A, B], [word, A, B], [3, 3, 3, 4, 4, 4])
        self.check([], [A, B], [(1, LOST), (LOST, 4)], [3, 3, 4, 4])
        self.check([], [(1, LOST), B], [A, B], [3, 3, 4, 4])

    def test_words_of_no_letters(self):
        self.check([0, 0, 2], [(), ()], [(), ()], [3, 3, 4, 4])
        self.check([0, 0, 2], [(), A], [(), A], [3, 3, 4, 4])
        self.check([], [(), A], [(), (0,)], [3, 3, 4, 4])
        self.check([], [()], [()], [3, 4])

    def test_words_that_differ(self):
        self.check([], [A, (1,)], [A, (1, 1)], [3, 3, 4, 4])
        self.check([], [A, (1, 2)], [A, (2, 1)], [3, 3, 4, 4])
        self.check([], [A, (1, 2, 3)], [A, (1, 2)], [3, 3, 4, 4])
        self.check([], [A, ()], [A, (LOST,)], [3, 3, 4, 4])


class OrderTold(MovesCase):
    def test_greatest_first(self):
        x, y = [A, B, F, C, D, E], [A, B, C, D, E]
        self.check([3, 2, 3, 0, 0, 2], x, y, [3] * 6 + [4] * 5)
        self.check([0, 3, 3, 4, 0, 2], [A, B, C, F, D, E], [D, E, F, A, B, C], [4] * 6 + [3] * 6)

    def test_of_equals_the_earliest_in_x(self):
        self.check([0, 2, 2, 2, 0, 2], [A, B, C, D], [C, D, A, B], [3] * 4 + [4] * 4)
        self.check([0, 2, 2, 2, 0, 2], [A, B, C, D], [C, D, A, B], [4] * 4 + [3] * 4)
        self.check([0, 0, 2], [A, B, A, B], [A, B], [3] * 4 + [4] * 2)
        self.check([0, 0, 2], [A, B, C, A, B], [A, B], [3] * 5 + [4] * 2)

    def test_then_in_y(self):
        self.check([0, 0, 2], [A, B], [A, B, A, B], [3] * 2 + [4] * 4)
        self.check([0, 0, 2], [A, B], [A, B, C, A, B], [4] * 5 + [3] * 2)
        self.check([0, 0, 2, 2, 3, 2], [A, B, A, B], [A, B, C, A, B], [3] * 4 + [4] * 5)

    def test_earliest_in_x_comes_ahead_of_earliest_in_y(self):
        self.check([0, 3, 2, 3, 0, 2], [A, B, E, C, D], [C, D, F, A, B], [3] * 5 + [4] * 5)

    def test_longer_one_takes_words_of_a_shorter_one(self):
        # A B is a move as well, but B goes with the longer B C D.
        self.check([1, 3, 3], [A, B, C, D], [A, B, E, B, C, D], [3] * 4 + [4] * 6)
        self.check([0, 0, 3], [A, B, C, D], [A, B, C, E, C, D], [3] * 4 + [4] * 6)
        self.check([3, 1, 3], [A, B, E, B, C, D], [A, B, C, D], [3] * 6 + [4] * 4)
        # What is left of the shorter one may be a move still.
        self.check([2, 4, 4, 0, 0, 2], [A, B, C, D, E, F], [A, B, C, A, C, D, E, F], [3] * 6 + [4] * 8)

    def test_what_is_left_ahead_and_behind_is_not_one_behind_another(self):
        # Once B C D is told, A and E are left in x; A E stands together in y alone.
        self.check([1, 3, 3], [A, B, C, D, E], [A, E, F, B, C, D], [3] * 5 + [4] * 6)
        self.check([3, 1, 3], [A, E, F, B, C, D], [A, B, C, D, E], [3] * 6 + [4] * 5)
        self.check([1, 1, 2], [A, B, C, D], [E, B, C, F, A, D], [3] * 4 + [4] * 6)

    def test_what_is_left_ahead_and_behind_is_moved_by_itself(self):
        x = [A, B, C, D, C, A, A]
        y = [A, A, F, A, B, F, C, D, C]
        self.check([2, 6, 3, 0, 3, 2, 5, 0, 2], x, y, [3] * 7 + [4] * 9)

    def test_words_taken_in_one_row_alone_are_free_in_no_other_move(self):
        self.check([0, 0, 2], [A, B, C], [A, B, D, B, C], [3] * 3 + [4] * 5)
        self.check([0, 0, 2], [A, B, D, B, C], [A, B, C], [3] * 5 + [4] * 3)

    def test_runs_apart(self):
        # In runs apart, too, the greatest comes first, then the earliest.
        x, y = [A, B, F, C, D, E], [C, D, E, F, A, B]
        self.check([3, 0, 3, 0, 4, 2], x, y, [3, 3, 4, 4, 4, 0, 3, 3, 3, 4, 4])
        x, y = [A, B, F, A, B], [A, B, F, A, B]
        self.check([0, 0, 2, 3, 3, 2], x, y, [3, 3, 4, 4, 0, 3, 3, 4, 4])


class OneWordManyTimes(MovesCase):
    def test_as_many(self):
        for n in range(2, 9):
            self.check([0, 0, n], [A] * n, [A] * n, [3] * n + [4] * n)

    def test_more_in_one_row(self):
        self.check([0, 0, 2], [A] * 3, [A] * 2, [3] * 3 + [4] * 2)
        self.check([0, 0, 3], [A] * 7, [A] * 3, [3] * 7 + [4] * 3)
        self.check([0, 0, 3], [A] * 3, [A] * 7, [4] * 7 + [3] * 3)

    def test_runs_apart(self):
        self.check([0, 0, 2, 2, 3, 2], [A] * 4, [A, A, B, A, A], [3] * 4 + [4] * 5)
        self.check([0, 0, 2, 3, 2, 2], [A, A, B, A, A], [A] * 4, [3] * 5 + [4] * 4)
        self.check([0, 0, 3, 3, 4, 2], [A] * 5, [A, A, A, B, A, A], [3] * 5 + [4] * 6)
        self.check([0, 3, 3, 3, 0, 2], [A] * 5, [A, A, B, A, A, A], [3] * 5 + [4] * 6)
        self.check([0, 0, 2], [A] * 3, [A, A, B, A, A], [3] * 3 + [4] * 5)

    def test_one_by_one(self):
        self.check([], [A] * 4, [A] * 4, [3, 4] * 4)
        self.check([0, 0, 2, 2, 2, 2], [A] * 4, [A] * 4, [3, 3, 4, 4] * 2)


class Edges(MovesCase):
    def test_rows_without_cells(self):
        self.check([], [], [], [])

    def test_one_row_without_cells(self):
        self.check([], [A, A], [], [3, 3])
        self.check([], [], [A, A], [4, 4])
        self.check([], [GAP_CELL, A, A], [], [5, 3, 3])

    def test_gaps_are_no_words(self):
        self.check([], [GAP_CELL, GAP_CELL], [GAP_CELL, GAP_CELL], [5, 5, 6, 6])
        self.check([], [A, GAP_CELL], [A, GAP_CELL], [3, 5, 4, 6])
        self.check([], [GAP_CELL, A], [GAP_CELL, A], [5, 3, 6, 4])


class NoCollation(MovesCase):
    def test_steps_that_may_not_stand(self):
        self.refused([A, B], [A, B], [1, 1, 4, 4])
        self.refused([A, B], [A, B], [3, 3, 2, 2])
        self.refused([A, B], [A, B], [3, 3, 5, 4, 4])
        self.refused([A, GAP_CELL], [A, B], [3, 3, 4, 4])
        self.refused([A, B], [A, GAP_CELL], [3, 3, 4, 4])
        self.refused([A, B], [GAP_CELL, A, B], [6, 3, 1, 4, 4])
        for number in (7, 8, 255, 2 ** 32 - 1, GREATEST):
            self.refused([A, B], [A, B], [3, 3, 4, 4, number])
            self.refused([A, B], [A, B], [number, 3, 3, 4, 4])
            self.refused([], [], [number])

    def test_steps_that_end_ahead_of_an_end(self):
        self.refused([A, B], [A, B], [])
        self.refused([A, B], [A, B], [3, 3])
        self.refused([A, B], [A, B], [4, 4])
        self.refused([A, B], [A, B], [3, 3, 4])
        self.refused([A, B], [A, B], [4, 4, 3])

    def test_steps_left_over(self):
        for step in range(7):
            self.refused([], [], [step])
            self.refused([A, B], [A, B], [3, 3, 4, 4, step])


class WrongNumbers(unittest.TestCase):
    def test_no_row_in_x_in_y_in_both(self):
        for told in ([], [3, 3], [0], [7], [GREATEST]):
            for wrong in NO_ROWS:
                for right in ([], [0], [GAP], numbers(A, GAP_CELL, B)):
                    self.assertEqual(moves(wrong, right, told), [-1], wrong[:4])
                    self.assertEqual(moves(right, wrong, told), [-1], wrong[:4])
                for other in NO_ROWS:
                    self.assertEqual(moves(wrong, other, told), [-1], (wrong[:4], other[:4]))

    def test_right_cells_ahead_of_wrong_numbers(self):
        begun = numbers(A, B)
        for wrong in NO_ROWS:
            self.assertEqual(moves(begun + wrong, begun, [3, 3, 4, 4]), [-1], wrong[:4])
            self.assertEqual(moves(begun, begun + wrong, [3, 3, 4, 4]), [-1], wrong[:4])

    def test_too_many_cells_or_numbers(self):
        self.assertEqual(moves([0] * 4096, [], [3] * 4096), [])
        for told in ([], [3] * 4097, [7]):
            for many in ([0] * 4097, [GAP] * 4097):
                self.assertEqual(moves(many, [], told), [-2])
                self.assertEqual(moves([], many, told), [-2])
                self.assertEqual(moves(many, [513], told), [-2])
                self.assertEqual(moves([513], many, told), [-1])
            self.assertEqual(moves([GAP] * 1048577, [], told), [-1])


class HandedIn(unittest.TestCase):
    def test_lists_stay_and_a_second_call_answers_as_the_first(self):
        lists = [numbers(A, B), numbers(A, B, A, B), [3, 3, 4, 4], [4] * 4 + [3] * 2, [0, 0], [7], [], [513]]
        before = [list(each) for each in lists]
        first = [moves(x, y, s) for x in lists for y in lists for s in lists]
        self.assertEqual(lists, before)
        self.assertEqual([moves(x, y, s) for x in lists for y in lists for s in lists], first)
        self.assertEqual(lists, before)
        self.assertIn([0, 0, 2], first)

    def test_answer_may_be_changed_without_harm(self):
        row = numbers(A, B)
        for told in ([3, 3, 4, 4], [0, 0], [0]):
            answer = moves(row, row, told)
            expected = list(answer)
            answer.append(9)
            self.assertEqual(moves(row, row, told), expected)

    def test_one_list_as_both_rows_and_steps(self):
        told = [0, 0]
        self.assertEqual(moves(told, told, told), [])
        self.assertEqual(told, [0, 0])


class LongRows(MovesCase):
    def test_one_move(self):
        self.check([0, 0, 149], [()] * 149, [()] * 149, [3] * 149 + [4] * 149)
        # 600 numbers in all: 599 in the lists, and the call's own.
        self.check([1, 0, 149], [(7,)] + [()] * 149, [()] * 149, [3] * 150 + [4] * 149)
        words = [(k,) for k in range(99)]
        self.check([0, 0, 99], words, words, [4] * 99 + [3] * 99)

    def test_many_moves(self):
        words = [(k,) for k in range(98)]
        turned = [word for k in range(96, -1, -2) for word in words[k:k + 2]]
        expected = [number for k in range(0, 98, 2) for number in (k, 96 - k, 2)]
        self.check(expected, words, turned, [3] * 98 + [4] * 98)

    def test_no_move(self):
        words = [(k,) for k in range(99)]
        self.check([], words, words[::-1], [3] * 99 + [4] * 99)
        self.check([], [()] * 149, [()] * 149, [3, 4] * 149)
        self.check([], [()] * 199, [()] * 199, [0] * 199)

    def test_runs_of_many_lengths(self):
        # Runs of 1, 2, 3 .. words of x, each ahead of one word of y, and all of y's words in one run.
        told = []
        for n in range(1, 14):
            told.extend([3] * n + [0])
        x = [()] * 104
        y = [()] * 13 + [()] * 91
        expected = []
        starts = {n: sum(range(n)) + n - 1 for n in range(1, 14)}
        behind = 13
        for n in range(13, 1, -1):
            expected.extend([starts[n], behind, n])
            behind += n
        self.check(expected, x, y, told + [4] * 91)

    def test_no_collation(self):
        self.refused([()] * 149, [()] * 149, [3] * 149 + [4] * 148)
        self.refused([], [], [3] * 599)


if __name__ == "__main__":
    unittest.main()
