"""cost: ordinary rows, the edges, wrong numbers, and what is handed in."""

import unittest

from collation.desk import cost
from tests.reckoning import GAP, GAP_CELL, LOST, numbers
from tests.samples import A, B, C, D, NO_ROWS


class CostCase(unittest.TestCase):
    def check(self, expected, x, y):
        """x and y, as cells, cost as much; and so do y and x."""
        self.assertEqual(cost(numbers(*x), numbers(*y)), [expected], (x, y))
        self.assertEqual(cost(numbers(*y), numbers(*x)), [expected], (y, x))


class OrdinaryRows(CostCase):
    def test_answer_is_a_list_of_one_whole_number(self):
        answer = cost([1, 5], [1, 6])
        self.assertIs(type(answer), list)
        self.assertEqual([type(number) for number in answer], [int])

    def test_words_alike(self):
        self.check(0, [A], [A])
        self.check(0, [A, B, C], [A, B, C])

    def test_words_that_fit(self):
        self.check(1, [(1, LOST)], [A])
        self.check(1, [(1, LOST)], [(LOST, 2)])
        self.check(2, [A, (LOST,), B], [(LOST, 2), (9,), B])

    def test_words_of_one_length_that_neither_are_alike_nor_fit(self):
        self.check(4, [A], [B])
        self.check(4, [A], [(2, 1)])
        self.check(4, [(1, LOST)], [(2, LOST)])
        self.check(4, [(LOST, 2)], [(1, 3)])

    def test_words_of_different_lengths(self):
        self.check(4, [A], [(1,)])
        self.check(4, [A], [(1, 2, 3)])
        self.check(4, [(LOST,)], [(LOST, LOST)])

    def test_words_missing_and_added(self):
        self.check(3, [A, B, C], [A, C])
        self.check(6, [A, B, C], [B])
        self.check(6, [A, B], [B, A])
        self.check(10, [A, B, C], [D, C, D])
        self.check(8, [A, B], [C, D])

    def test_missing_and_added_beside_a_pair(self):
        self.check(6, [A, B], [B, C])
        self.check(6, [A, B, C], [B, C, D])
        self.check(8, [A, B, C], [C, D, C])

    def test_order_of_rows(self):
        self.check(9, [A, B, C], [])
        self.check(6, [A, B, C, D], [A, D])


class Edges(CostCase):
    def test_rows_without_cells(self):
        self.check(0, [], [])
        self.check(3, [A], [])
        self.check(6, [A, ()], [])
        self.check(0, [GAP_CELL], [])
        self.check(6, [GAP_CELL, A, GAP_CELL, B], [])

    def test_words_of_no_letters(self):
        self.check(0, [()], [()])
        self.check(3, [()], [])
        self.check(3, [(), ()], [()])
        self.check(4, [()], [(LOST,)])
        self.check(4, [()], [(0,)])

    def test_longest_words(self):
        word = tuple(range(512))
        self.check(0, [word], [word])
        self.check(1, [word], [word[:511] + (LOST,)])
        self.check(4, [word], [word[:511] + (0,)])
        self.check(4, [word], [word[:511]])
        self.assertEqual(cost([513] + [0] * 513, []), [-1])

    def test_letters_at_the_bounds(self):
        greatest = 2 ** 21 - 1
        self.check(0, [(greatest,)], [(greatest,)])
        self.check(4, [(greatest,)], [(0,)])
        self.check(1, [(greatest,)], [(LOST,)])
        for wrong in (2 ** 21, 2 ** 24 - 1, 2 ** 24 + 1):
            self.assertEqual(cost([1, wrong], [1, wrong]), [-1])

    def test_word_of_lost_letters_beside_itself(self):
        self.check(1, [(LOST,)], [(LOST,)])
        self.check(1, [(LOST,) * 5], [(LOST,) * 5])
        self.check(1, [(LOST, 7)], [(LOST, 7)])
        self.check(2, [(LOST,), (LOST,)], [(LOST,), (LOST,)])

    def test_gap_at_the_beginning(self):
        self.check(0, [GAP_CELL, C], [A, B, C])
        self.check(0, [GAP_CELL, A], [A])
        self.check(3, [GAP_CELL, A, B], [B])

    def test_gap_in_the_middle(self):
        self.check(0, [A, GAP_CELL, D], [A, B, C, D])
        self.check(0, [A, GAP_CELL, D], [A, D])
        self.check(3, [A, GAP_CELL, D], [B, A, C, D])
        self.check(3, [A, GAP_CELL, D], [A, B, C])
        self.check(3, [A, GAP_CELL, D], [B, D])

    def test_gap_at_the_end(self):
        self.check(0, [A, GAP_CELL], [A, B, C, D])
        self.check(0, [A, GAP_CELL], [A])
        self.check(3, [A, B, GAP_CELL], [A])

    def test_gap_in_both(self):
        self.check(0, [GAP_CELL], [GAP_CELL])
        self.check(0, [GAP_CELL, A], [GAP_CELL, A])
        self.check(0, [A, GAP_CELL], [A, GAP_CELL])
        self.check(0, [A, GAP_CELL, B], [A, GAP_CELL, B])
        self.check(0, [GAP_CELL, A], [B, GAP_CELL])
        self.check(6, [GAP_CELL, A, B], [GAP_CELL, C, D])
        self.check(3, [GAP_CELL, A, B], [GAP_CELL, C, B])
        self.check(0, [A, GAP_CELL, B], [A, C, GAP_CELL])

    def test_several_gaps_one_behind_another(self):
        self.check(0, [GAP_CELL] * 3, [])
        self.check(0, [GAP_CELL] * 3, [GAP_CELL] * 2)
        self.check(0, [GAP_CELL, GAP_CELL, A], [B, C, A])
        self.check(0, [A, GAP_CELL, GAP_CELL], [A, B, GAP_CELL, C])

    def test_words_behind_a_gap(self):
        self.check(0, [GAP_CELL], [A, B, C])
        self.check(3, [GAP_CELL, D], [A, B, C])
        self.check(1, [GAP_CELL, (LOST, 6)], [A, B, C])

    def test_words_ahead_of_a_gap(self):
        self.check(3, [A, GAP_CELL], [])
        self.check(0, [A, GAP_CELL], [GAP_CELL])
        self.check(3, [A, GAP_CELL], [B])
        self.check(3, [A, GAP_CELL], [B, A])

    def test_word_missing_between_a_gap_and_what_the_gap_spares(self):
        self.check(3, [GAP_CELL, A], [B, C])
        self.check(3, [GAP_CELL, A, B], [C, B])
        self.check(3, [GAP_CELL, A, B], [C, B, D, B])
        self.check(6, [GAP_CELL, A, B], [B, D])
        self.check(7, [GAP_CELL, A, B, C], [B, D])

    def test_nothing_is_spared_behind_a_pair(self):
        self.check(3, [GAP_CELL, A], [A, B])
        self.check(6, [GAP_CELL, A, B], [A, B, C, D])
        self.check(1, [GAP_CELL, A, (LOST, 8)], [A, B, A, D])

    def test_gap_of_one_row_ends_what_the_gap_of_the_other_may_have_held(self):
        self.check(3, [A, GAP_CELL, B], [GAP_CELL])
        self.check(0, [A, GAP_CELL, B], [GAP_CELL, GAP_CELL])
        self.check(3, [GAP_CELL, A], [B, GAP_CELL, C])


class WrongNumbers(unittest.TestCase):
    def test_no_row_in_x_in_y_in_both(self):
        for wrong in NO_ROWS:
            for right in ([], [0], [GAP], numbers(A, GAP_CELL, B)):
                self.assertEqual(cost(wrong, right), [-1], wrong[:4])
                self.assertEqual(cost(right, wrong), [-1], wrong[:4])
            for other in NO_ROWS:
                self.assertEqual(cost(wrong, other), [-1], (wrong[:4], other[:4]))

    def test_wrong_behind_right_cells(self):
        begun = numbers(A, GAP_CELL, ())
        for wrong in NO_ROWS:
            self.assertEqual(cost(begun + wrong, begun), [-1], wrong[:4])
            self.assertEqual(cost(begun, begun + wrong), [-1], wrong[:4])

    def test_too_many_cells(self):
        self.assertEqual(cost([0] * 4096, []), [3 * 4096])
        for many in ([0] * 4097, [GAP] * 4097):
            self.assertEqual(cost(many, []), [-2])
            self.assertEqual(cost([], many), [-2])
            self.assertEqual(cost(many + [513], []), [-1])
            self.assertEqual(cost(many, [513]), [-2])
            self.assertEqual(cost([513], many), [-1])

    def test_too_many_numbers(self):
        full = ([512] + [0] * 512) * 2043 + [511] + [0] * 511
        full.extend([GAP] * (1048576 - len(full)))
        self.assertEqual(cost(full, []), [3 * 2044])
        self.assertEqual(cost(full + [GAP], []), [-1])
        self.assertEqual(cost([], [GAP] * 1048577), [-1])


class HandedIn(unittest.TestCase):
    def test_lists_stay_and_a_second_call_answers_as_the_first(self):
        rows = [numbers(A, GAP_CELL, B), numbers((LOST,), A), numbers(B, (), GAP_CELL), [], [1], [513]]
        before = [list(row) for row in rows]
        first = [cost(x, y) for x in rows for y in rows]
        self.assertEqual(rows, before)
        self.assertEqual([cost(x, y) for x in rows for y in rows], first)
        self.assertEqual(rows, before)

    def test_answer_may_be_changed_without_harm(self):
        for x in ([1, 5], [1]):
            answer = cost(x, [])
            expected = list(answer)
            answer.append(9)
            self.assertEqual(cost(x, []), expected)

    def test_one_list_as_both_rows(self):
        row = numbers(A, (LOST,), GAP_CELL, B)
        self.assertEqual(cost(row, row), [1])
        self.assertEqual(row, numbers(A, (LOST,), GAP_CELL, B))


class LongRows(CostCase):
    def test_words_of_no_letters(self):
        self.check(0, [()] * 1500, [()] * 1500)
        self.check(3 * 3000, [()] * 3000, [])
        self.check(3 * 1000, [()] * 2000, [()] * 1000)

    def test_words_of_one_letter(self):
        x = [(k,) for k in range(750)]
        self.check(0, x, x)
        self.check(6, x, x[1:] + [(750,)])
        self.check(750, x, [(LOST,)] * 750)
        self.check(4 * 750, x, [(k + 1000,) for k in range(750)])

    def test_gaps(self):
        self.check(0, [GAP_CELL] * 1500, [GAP_CELL] * 1500)
        self.check(0, [GAP_CELL], [()] * 2999)
        self.check(0, [(), GAP_CELL] * 750, [(), GAP_CELL] * 750)

    def test_longest_words(self):
        word = tuple(range(512))
        self.check(8, [word, word], [word[::-1], (3,) * 512])


if __name__ == "__main__":
    unittest.main()
