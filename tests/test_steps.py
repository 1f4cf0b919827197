"""steps: ordinary rows, the edges, equals, wrong numbers, and what is handed in."""

import unittest

from collation.desk import cost, steps
from tests.reckoning import GAP, GAP_CELL, LOST, follow, numbers
from tests.samples import A, B, C, D, NO_ROWS

# Two least collations of two rows, the first and another, by the steps in which they first differ.
# No others can be: the rest ask for other cells, or (1 and 3, 2 and 4) the lesser costs less.
EQUALS = {
    (0, 1): ([A, GAP_CELL], [GAP_CELL, A], [6, 0, 5], [6, 1, 5, 2]),
    (0, 2): ([GAP_CELL, A], [A, GAP_CELL], [5, 0, 6], [5, 2, 6, 1]),
    (0, 3): ([A, A], [A], [0, 3], [3, 0]),
    (0, 4): ([A], [A, A], [0, 4], [4, 0]),
    (1, 4): ([A], [GAP_CELL, B, GAP_CELL], [6, 1, 4, 6], [6, 4, 6, 1]),
    (1, 6): ([A], [GAP_CELL, GAP_CELL], [6, 1, 6], [6, 6, 1]),
    (2, 3): ([GAP_CELL, A, GAP_CELL], [B], [5, 2, 3, 5], [5, 3, 5, 2]),
    (2, 5): ([GAP_CELL, GAP_CELL], [A], [5, 2, 5], [5, 5, 2]),
    (3, 4): ([A, GAP_CELL], [B, GAP_CELL], [3, 5, 2, 6], [4, 6, 1, 5]),
    (3, 6): ([A, GAP_CELL, A], [GAP_CELL], [3, 5, 6, 1], [6, 1, 5, 3]),
    (4, 5): ([GAP_CELL], [A, GAP_CELL, A], [4, 6, 5, 2], [5, 2, 6, 4]),
    (5, 6): ([GAP_CELL], [GAP_CELL], [5, 6], [6, 5]),
}


class StepsCase(unittest.TestCase):
    def check(self, expected, x, y):
        """These are the steps of x and y, as cells, and a collation that costs what cost answers."""
        self.assertEqual(steps(numbers(*x), numbers(*y)), expected, (x, y))
        self.assertEqual([follow(x, y, expected)], cost(numbers(*x), numbers(*y)), (x, y))


class OrdinaryRows(StepsCase):
    def test_answer_is_a_list_of_whole_numbers(self):
        for x, y in (([1, 5], [1, 6]), ([0, GAP, 0], [GAP, 0, 0]), ([], [])):
            answer = steps(x, y)
            self.assertIs(type(answer), list)
            self.assertTrue(all(type(number) is int for number in answer), answer)

    def test_words_alike(self):
        self.check([0], [A], [A])
        self.check([0, 0, 0], [A, B, C], [A, B, C])

    def test_words_that_fit(self):
        self.check([0], [(1, LOST)], [A])
        self.check([0, 0, 0], [A, (LOST,), B], [(LOST, 2), (9,), B])
        self.check([4, 0], [A], [B, (1, LOST)])
        self.check([3, 0], [B, (1, LOST)], [A])

    def test_word_alike_rather_than_one_that_fits(self):
        self.check([3, 0], [(1, LOST), A], [A])
        self.check([4, 0], [A], [(1, LOST), A])

    def test_words_that_neither_are_alike_nor_fit(self):
        self.check([0], [A], [B])
        self.check([0, 0], [A, B], [C, D])
        self.check([0], [(1, LOST)], [(2, LOST)])
        self.check([0, 0, 0], [A, B, C], [C, D, C])
        self.check([0, 3], [A, B], [C])
        self.check([0, 4], [A], [C, D])

    def test_words_of_different_lengths(self):
        self.check([0], [A], [(1,)])
        self.check([0, 0], [A, B], [(1, 2, 3), (3,)])
        self.check([0], [(LOST,)], [(LOST, LOST)])

    def test_words_missing(self):
        self.check([0, 3, 0], [A, B, C], [A, C])
        self.check([3, 0, 3], [A, B, C], [B])
        self.check([0, 3, 3, 0], [A, B, C, D], [A, D])

    def test_words_added(self):
        self.check([0, 4, 0], [A, C], [A, B, C])
        self.check([4, 0, 4], [B], [A, B, C])
        self.check([0, 4, 4, 0], [A, D], [A, B, C, D])

    def test_words_missing_and_added(self):
        self.check([3, 0, 4], [A, B], [B, A])
        self.check([3, 0, 4], [A, B], [B, C])
        self.check([3, 0, 0, 4], [A, B, C], [B, C, D])


class Edges(StepsCase):
    def test_rows_without_cells(self):
        self.check([], [], [])
        self.check([3, 3], [A, ()], [])
        self.check([4, 4], [], [A, ()])
        self.check([5], [GAP_CELL], [])
        self.check([6], [], [GAP_CELL])
        self.check([5, 3, 5, 3], [GAP_CELL, A, GAP_CELL, B], [])
        self.check([6, 4, 6, 4], [], [GAP_CELL, A, GAP_CELL, B])

    def test_words_of_no_letters(self):
        self.check([0], [()], [()])
        self.check([0], [()], [(0,)])
        self.check([0, 3], [(), ()], [()])
        self.check([0, 4], [()], [(), ()])
        self.check([3, 0], [A, ()], [()])
        self.check([5, 2], [GAP_CELL], [()])
        self.check([6, 1], [()], [GAP_CELL])

    def test_longest_words(self):
        word = tuple(range(512))
        self.check([3, 0], [word[:511] + (0,), word], [word])
        self.check([4, 0], [word], [word[:511], word[:511] + (LOST,)])

    def test_gap_at_the_beginning(self):
        self.check([5, 2, 2, 0], [GAP_CELL, C], [A, B, C])
        self.check([6, 1, 1, 0], [A, B, C], [GAP_CELL, C])
        self.check([5, 0], [GAP_CELL, A], [A])
        self.check([6, 0], [A], [GAP_CELL, A])
        self.check([5, 3, 0], [GAP_CELL, A, B], [B])
        self.check([6, 4, 0], [B], [GAP_CELL, A, B])

    def test_gap_in_the_middle(self):
        self.check([0, 5, 2, 2, 0], [A, GAP_CELL, D], [A, B, C, D])
        self.check([0, 6, 1, 1, 0], [A, B, C, D], [A, GAP_CELL, D])
        self.check([0, 5, 0], [A, GAP_CELL, D], [A, D])
        self.check([0, 6, 0], [A, D], [A, GAP_CELL, D])
        self.check([3, 5, 2, 0], [A, GAP_CELL, D], [B, D])
        self.check([0, 5, 2, 2, 3], [A, GAP_CELL, D], [A, B, C])

    def test_gap_at_the_end(self):
        self.check([0, 5, 2, 2, 2], [A, GAP_CELL], [A, B, C, D])
        self.check([0, 6, 1, 1, 1], [A, B, C, D], [A, GAP_CELL])
        self.check([0, 5], [A, GAP_CELL], [A])
        self.check([0, 6], [A], [A, GAP_CELL])
        self.check([0, 3, 5], [A, B, GAP_CELL], [A])
        self.check([0, 4, 6], [A], [A, B, GAP_CELL])

    def test_gap_in_both(self):
        self.check([5, 6], [GAP_CELL], [GAP_CELL])
        self.check([5, 6, 0], [GAP_CELL, A], [GAP_CELL, A])
        self.check([0, 5, 6], [A, GAP_CELL], [A, GAP_CELL])
        self.check([0, 5, 6, 0], [A, GAP_CELL, B], [A, GAP_CELL, B])
        self.check([5, 2, 6, 1], [GAP_CELL, A], [B, GAP_CELL])
        self.check([6, 1, 5, 2], [A, GAP_CELL], [GAP_CELL, B])

    def test_several_gaps_one_behind_another(self):
        self.check([5, 5, 5], [GAP_CELL] * 3, [])
        self.check([5, 5, 5, 6, 6], [GAP_CELL] * 3, [GAP_CELL] * 2)
        self.check([5, 2, 2, 5, 0], [GAP_CELL, GAP_CELL, A], [B, C, A])
        self.check([6, 1, 1, 6, 0], [B, C, A], [GAP_CELL, GAP_CELL, A])
        self.check([0, 5, 2, 6, 5, 2], [A, GAP_CELL, GAP_CELL], [A, B, GAP_CELL, C])

    def test_words_behind_a_gap(self):
        self.check([5, 2, 2, 2], [GAP_CELL], [A, B, C])
        self.check([6, 1, 1, 1], [A, B, C], [GAP_CELL])
        self.check([5, 2, 2, 2, 3], [GAP_CELL, D], [A, B, C])
        self.check([5, 2, 2, 0], [GAP_CELL, (LOST, 6)], [A, B, C])

    def test_words_ahead_of_a_gap(self):
        self.check([3, 5], [A, GAP_CELL], [])
        self.check([6, 1, 5], [A, GAP_CELL], [GAP_CELL])
        self.check([5, 2, 6], [GAP_CELL], [A, GAP_CELL])
        self.check([3, 5, 2], [A, GAP_CELL], [B])
        self.check([3, 5, 2, 2], [A, GAP_CELL], [B, A])

    def test_nothing_is_spared_or_lost_behind_a_pair(self):
        self.check([5, 0, 4], [GAP_CELL, A], [A, B])
        self.check([6, 0, 3], [A, B], [GAP_CELL, A])


class FirstOfEquals(StepsCase):
    def test_whichever_steps_they_first_differ_by(self):
        for (lesser, greater), (x, y, first, other) in EQUALS.items():
            differing = [pair for pair in zip(first, other) if pair[0] != pair[1]]
            self.assertEqual(differing[0], (lesser, greater))
            self.assertEqual(follow(x, y, first), follow(x, y, other))
            self.check(first, x, y)

    def test_behind_and_ahead_of_words_alike(self):
        for x, y, first, _ in EQUALS.values():
            self.check([0, 0] + first, [C, D] + x, [C, D] + y)

    def test_beginning_rather_than_the_rest(self):
        self.check([0, 0, 3, 3], [A] * 4, [A] * 2)
        self.check([0, 0, 4, 4], [A] * 2, [A] * 4)
        self.check([0, 0, 3], [A, B, C], [A, D])

    def test_lesser_step_that_costs_more_later_is_not_told(self):
        self.check([3, 0, 4], [A, B], [B, A])
        self.check([6, 1, 0], [A, B], [GAP_CELL, B])
        self.check([6, 1, 0, 0], [A, A, B], [GAP_CELL, A, B])
        self.check([5, 2, 0, 0], [GAP_CELL, A, B], [A, A, B])
        self.check([6, 5, 2], [GAP_CELL], [GAP_CELL, A])


class WrongNumbers(unittest.TestCase):
    def test_no_row_in_x_in_y_in_both(self):
        for wrong in NO_ROWS:
            for right in ([], [0], [GAP], numbers(A, GAP_CELL, B)):
                self.assertEqual(steps(wrong, right), [-1], wrong[:4])
                self.assertEqual(steps(right, wrong), [-1], wrong[:4])
            for other in NO_ROWS:
                self.assertEqual(steps(wrong, other), [-1], (wrong[:4], other[:4]))

    def test_wrong_behind_right_cells(self):
        begun = numbers(A, GAP_CELL, ())
        for wrong in NO_ROWS:
            self.assertEqual(steps(begun + wrong, begun), [-1], wrong[:4])
            self.assertEqual(steps(begun, begun + wrong), [-1], wrong[:4])

    def test_too_many_cells_or_numbers(self):
        self.assertEqual(steps([0] * 4096, []), [3] * 4096)
        for many in ([0] * 4097, [GAP] * 4097):
            self.assertEqual(steps(many, []), [-2])
            self.assertEqual(steps([], many), [-2])
            self.assertEqual(steps(many, [513]), [-2])
            self.assertEqual(steps([513], many), [-1])
        self.assertEqual(steps([GAP] * 1048577, []), [-1])


class HandedIn(unittest.TestCase):
    def test_lists_stay_and_a_second_call_answers_as_the_first(self):
        rows = [numbers(A, GAP_CELL, B), numbers((LOST,), A), numbers(B, (), GAP_CELL), [], [1], [513]]
        before = [list(row) for row in rows]
        first = [steps(x, y) for x in rows for y in rows]
        self.assertEqual(rows, before)
        self.assertEqual([steps(x, y) for x in rows for y in rows], first)
        self.assertEqual(rows, before)

    def test_answer_may_be_changed_without_harm(self):
        for x in ([1, 5], [1], []):
            answer = steps(x, [])
            expected = list(answer)
            answer.append(9)
            self.assertEqual(steps(x, []), expected)

    def test_one_list_as_both_rows(self):
        row = numbers(A, (LOST,), GAP_CELL, B)
        self.assertEqual(steps(row, row), [0, 0, 5, 6, 0])
        self.assertEqual(row, numbers(A, (LOST,), GAP_CELL, B))


class LongRows(StepsCase):
    def test_words_of_no_letters(self):
        self.check([0] * 1500, [()] * 1500, [()] * 1500)
        self.check([3] * 3000, [()] * 3000, [])
        self.check([4] * 3000, [], [()] * 3000)
        self.check([0] * 1000 + [3] * 1000, [()] * 2000, [()] * 1000)

    def test_words_of_one_letter(self):
        x = [(k,) for k in range(750)]
        self.check([3] + [0] * 749 + [4], x, x[1:] + [(750,)])
        self.check([0] * 750, x, [(k + 1000,) for k in range(750)])

    def test_gaps(self):
        self.check([5] * 1500 + [6] * 1500, [GAP_CELL] * 1500, [GAP_CELL] * 1500)
        self.check([5] + [2] * 2999, [GAP_CELL], [()] * 2999)
        self.check([6] + [1] * 2999, [()] * 2999, [GAP_CELL])
        self.check([0, 5, 6] * 750, [(), GAP_CELL] * 750, [(), GAP_CELL] * 750)

    def test_longest_words(self):
        word = tuple(range(512))
        self.check([0, 3, 0], [word, word[::-1], word], [word, word])


if __name__ == "__main__":
    unittest.main()
