"""through: ordinary places, the edges, gaps beside the place, refusals, and what is handed in."""

import unittest

from collation.desk import cost, through
from tests.reckoning import GAP, GAP_CELL, LOST, numbers
from tests.samples import A, B, C, D, NO_ROWS

GREATEST = 2 ** 64 - 1


class ThroughCase(unittest.TestCase):
    def check(self, expected, i, j, x, y):
        """Through (i, j) x and y, as cells, cost as much; and so do y and x through (j, i)."""
        self.assertEqual(through(i, j, numbers(*x), numbers(*y)), [expected], (i, j, x, y))
        self.assertEqual(through(j, i, numbers(*y), numbers(*x)), [expected], (j, i, y, x))


class OrdinaryPlaces(ThroughCase):
    def test_answer_is_a_list_of_one_whole_number(self):
        for i, j in ((0, 0), (0, 1), (1, 1), (2, 0)):
            answer = through(i, j, [1, 5], [1, 6])
            self.assertIs(type(answer), list)
            self.assertEqual([type(number) for number in answer], [int])

    def test_places_that_a_least_collation_goes_through(self):
        for k in range(4):
            self.check(0, k, k, [A, B, C], [A, B, C])
        for i, j in ((0, 0), (1, 0), (2, 1), (2, 2)):
            self.check(6, i, j, [A, B], [B, C])
        for i, j in ((0, 0), (1, 1), (2, 1), (3, 2)):
            self.check(3, i, j, [A, B, C], [A, C])
        for i, j in ((0, 0), (1, 1), (2, 2)):
            self.check(2, i, j, [A, (LOST,)], [(1, LOST), (9,)])

    def test_places_that_none_does(self):
        self.check(6, 0, 1, [A], [A])
        self.check(6, 1, 0, [A], [A])
        self.check(6, 1, 2, [A, B, C], [A, B, C])
        self.check(12, 0, 2, [A, B, C], [A, B, C])
        self.check(18, 3, 0, [A, B, C], [A, B, C])
        self.check(8, 1, 1, [A, B], [B, C])
        self.check(12, 0, 2, [A, B], [B, C])
        self.check(10, 0, 1, [A, B], [B, C])
        self.check(7, 1, 0, [A, B, C], [A, C])
        self.check(9, 3, 1, [A, B, C], [A, C])

    def test_one_cell_of_one_row_taken_more_than_of_the_other(self):
        self.check(6, 1, 0, [A, A], [A, A])
        self.check(6, 2, 1, [A, A], [A, A])
        self.check(10, 1, 0, [A, B], [C, D])
        self.check(7, 1, 0, [A, B, C], [A, (LOST, LOST), C])

    def test_order_of_arguments(self):
        x, y = numbers(A, B, C), numbers(A)
        self.assertEqual(through(1, 0, x, y), [10])
        self.assertEqual(through(0, 1, x, y), [12])
        self.assertEqual(through(3, 1, x, y), [6])
        self.assertEqual(through(3, 0, x, y), [12])
        self.assertEqual(through(1, 3, x, y), [-4])


class Edges(ThroughCase):
    ROWS = (
        [], [A], [()], [GAP_CELL], [(LOST,)], [A, B, C], [GAP_CELL, A], [A, GAP_CELL], [B, GAP_CELL, A],
        [(), GAP_CELL, ()], [GAP_CELL, GAP_CELL],
    )

    def test_beginning_and_end(self):
        for x in self.ROWS:
            for y in self.ROWS:
                least = cost(numbers(*x), numbers(*y))[0]
                self.check(least, 0, 0, x, y)
                self.check(least, len(x), len(y), x, y)

    def test_rows_without_cells(self):
        self.check(0, 0, 0, [], [])
        self.assertEqual(through(0, 0, [], []), [0])

    def test_one_row_without_cells(self):
        for i in range(4):
            self.check(9, i, 0, [A, B, ()], [])
            self.check(3, i, 0, [GAP_CELL, A, GAP_CELL], [])
            self.check(0, i, 0, [GAP_CELL] * 3, [])

    def test_i_at_0(self):
        self.check(0, 0, 0, [A, B], [A, B])
        self.check(6, 0, 1, [A, B], [A, B])
        self.check(12, 0, 2, [A, B], [A, B])
        self.check(3, 0, 1, [A, B], [C, A, B])
        self.check(0, 0, 1, [A, B], [GAP_CELL, A, B])
        self.check(0, 0, 1, [GAP_CELL, B], [GAP_CELL, A, B])
        self.check(3, 0, 2, [GAP_CELL, B], [GAP_CELL, A, B])

    def test_i_at_the_end_of_x(self):
        self.check(12, 2, 0, [A, B], [A, B])
        self.check(6, 2, 1, [A, B], [A, B])
        self.check(0, 2, 2, [A, B], [A, B])
        self.check(3, 2, 2, [A, B], [A, B, C])
        self.check(0, 2, 1, [A, GAP_CELL], [A, B, C])
        self.check(0, 2, 2, [A, GAP_CELL], [A, B, C])
        self.check(6, 2, 0, [A, GAP_CELL], [A, B, GAP_CELL, C])

    def test_words_of_no_letters(self):
        self.check(0, 1, 1, [(), ()], [(), ()])
        self.check(6, 1, 0, [()], [()])
        self.check(9, 1, 0, [(), ()], [()] * 3)
        self.check(10, 1, 0, [()] * 2, [A] * 2)
        self.check(0, 1, 1, [(), GAP_CELL], [GAP_CELL, ()])


class GapsBesideThePlace(ThroughCase):
    def beside_the_parts(self, whole, parts, i, j, x, y):
        """The whole costs so much, its two parts by themselves so much together."""
        self.check(whole, i, j, x, y)
        ahead = cost(numbers(*x[:i]), numbers(*y[:j]))[0]
        behind = cost(numbers(*x[i:]), numbers(*y[j:]))[0]
        self.assertEqual(ahead + behind, parts, (i, j, x, y))

    def test_gap_right_ahead_holds_what_is_behind(self):
        self.beside_the_parts(0, 3, 1, 0, [GAP_CELL], [A])
        self.beside_the_parts(0, 9, 1, 0, [GAP_CELL], [A, B, C])
        self.beside_the_parts(0, 3, 2, 1, [A, GAP_CELL], [A, B])
        self.beside_the_parts(0, 6, 2, 1, [A, GAP_CELL, D], [A, B, C, D])

    def test_gap_further_ahead_holds_what_is_on_both_sides(self):
        self.beside_the_parts(0, 3, 1, 1, [GAP_CELL], [A, B])
        self.beside_the_parts(0, 6, 1, 2, [GAP_CELL], [A, B, C, D])
        self.beside_the_parts(0, 3, 2, 3, [A, GAP_CELL, C], [A, B, D, B, C])

    def test_what_a_gap_holds_is_parted_by_a_pair_or_another_step(self):
        # The pair ahead of the place stands between the gap and what is behind the place.
        self.beside_the_parts(3, 3, 2, 1, [GAP_CELL, A], [A, B])
        self.beside_the_parts(3, 3, 2, 0, [GAP_CELL, A], [GAP_CELL])
        self.beside_the_parts(6, 6, 2, 1, [GAP_CELL, A], [B, A])

    def test_gap_right_behind_holds_nothing_ahead(self):
        self.beside_the_parts(3, 3, 0, 1, [GAP_CELL], [A])
        self.beside_the_parts(9, 9, 0, 3, [GAP_CELL], [A, B, C])
        self.beside_the_parts(3, 3, 1, 2, [A, GAP_CELL], [A, B])
        self.beside_the_parts(3, 3, 0, 1, [GAP_CELL], [A, B])

    def test_gaps_on_both_sides_in_one_row(self):
        self.beside_the_parts(0, 0, 1, 0, [GAP_CELL, GAP_CELL], [A])
        self.beside_the_parts(0, 0, 1, 1, [GAP_CELL, GAP_CELL], [A, B])
        self.beside_the_parts(3, 3, 0, 1, [GAP_CELL, GAP_CELL], [A])
        self.beside_the_parts(0, 0, 1, 1, [GAP_CELL, A, GAP_CELL], [C, A, B])

    def test_gaps_right_ahead_in_both_rows(self):
        # One of the two comes last, and holds what is behind the place; the other doesn't.
        self.beside_the_parts(0, 3, 1, 1, [GAP_CELL], [GAP_CELL, A])
        self.beside_the_parts(3, 6, 1, 1, [GAP_CELL, A, B], [GAP_CELL, C, A])
        self.beside_the_parts(3, 4, 1, 1, [GAP_CELL, A], [GAP_CELL, B])
        self.beside_the_parts(0, 0, 1, 1, [GAP_CELL, A], [GAP_CELL, A])

    def test_gaps_right_behind_in_both_rows(self):
        self.beside_the_parts(0, 0, 0, 0, [GAP_CELL], [GAP_CELL])
        self.beside_the_parts(4, 4, 1, 1, [A, GAP_CELL], [B, GAP_CELL])
        self.beside_the_parts(3, 3, 1, 0, [A, GAP_CELL], [GAP_CELL])

    def test_gap_ahead_in_one_row_and_behind_in_the_other(self):
        self.beside_the_parts(0, 0, 1, 0, [GAP_CELL], [GAP_CELL])
        self.beside_the_parts(0, 0, 1, 0, [GAP_CELL, A], [GAP_CELL])
        self.beside_the_parts(0, 3, 1, 0, [GAP_CELL], [A, GAP_CELL])
        self.beside_the_parts(0, 3, 1, 0, [GAP_CELL, B], [A, GAP_CELL])
        self.beside_the_parts(3, 3, 1, 0, [GAP_CELL, A], [GAP_CELL, B, A])
        self.beside_the_parts(0, 3, 2, 1, [A, GAP_CELL, C], [A, B, GAP_CELL])


class PlacesAboveARowsCells(unittest.TestCase):
    ROWS = ([], [A], [()], [GAP_CELL], [A, GAP_CELL, (), (LOST,)])

    def test_above_by_one_and_more(self):
        for x in self.ROWS:
            for y in self.ROWS:
                told = numbers(*x), numbers(*y)
                for more in (1, 2, 2 ** 32, 2 ** 63, GREATEST - len(x) - len(y)):
                    for j in range(len(y) + 1):
                        self.assertEqual(through(len(x) + more, j, *told), [-4], (x, y, more, j))
                    for i in range(len(x) + 1):
                        self.assertEqual(through(i, len(y) + more, *told), [-4], (x, y, i, more))
                    self.assertEqual(through(len(x) + more, len(y) + more, *told), [-4], (x, y, more))

    def test_the_greatest_number(self):
        for x in self.ROWS:
            for y in self.ROWS:
                told = numbers(*x), numbers(*y)
                self.assertEqual(through(GREATEST, 0, *told), [-4])
                self.assertEqual(through(0, GREATEST, *told), [-4])
                self.assertEqual(through(GREATEST, GREATEST, *told), [-4])

    def test_places_are_counted_in_cells(self):
        x, y = [3, 1, 2, 3], [2, 1, 2, 1, 5]
        self.assertEqual(through(1, 2, x, y), [7])
        for i, j in ((2, 0), (3, 0), (4, 0), (0, 3), (0, 4), (0, 5), (2, 2), (1, 3), (4, 5)):
            self.assertEqual(through(i, j, x, y), [-4], (i, j))

    def test_place_within_the_other_row_alone(self):
        self.assertEqual(through(2, 1, numbers(A), numbers(A, B)), [-4])
        self.assertEqual(through(1, 2, numbers(A, B), numbers(A)), [-4])


class WrongNumbers(unittest.TestCase):
    PLACES = ((0, 0), (1, 0), (0, 1), (9, 0), (0, 9), (GREATEST, GREATEST))

    def test_no_row_in_x_in_y_in_both(self):
        for i, j in self.PLACES:
            for wrong in NO_ROWS:
                for right in ([], [0], [GAP], numbers(A, GAP_CELL, B)):
                    self.assertEqual(through(i, j, wrong, right), [-1], wrong[:4])
                    self.assertEqual(through(i, j, right, wrong), [-1], wrong[:4])
                for other in NO_ROWS:
                    self.assertEqual(through(i, j, wrong, other), [-1], (wrong[:4], other[:4]))

    def test_right_cells_ahead_of_wrong_numbers(self):
        begun = numbers(A, GAP_CELL, ())
        for i, j in self.PLACES:
            for wrong in NO_ROWS:
                self.assertEqual(through(i, j, begun + wrong, begun), [-1], wrong[:4])
                self.assertEqual(through(i, j, begun, begun + wrong), [-1], wrong[:4])

    def test_too_many_cells_or_numbers(self):
        self.assertEqual(through(4096, 0, [0] * 4096, []), [3 * 4096])
        self.assertEqual(through(4097, 0, [0] * 4096, []), [-4])
        for i, j in self.PLACES + ((4097, 0), (0, 4097)):
            for many in ([0] * 4097, [GAP] * 4097):
                self.assertEqual(through(i, j, many, []), [-2])
                self.assertEqual(through(i, j, [], many), [-2])
                self.assertEqual(through(i, j, many, [513]), [-2])
                self.assertEqual(through(i, j, [513], many), [-1])
            self.assertEqual(through(i, j, [GAP] * 1048577, []), [-1])


class HandedIn(unittest.TestCase):
    def test_lists_stay_and_a_second_call_answers_as_the_first(self):
        lists = [numbers(A, GAP_CELL, B), numbers((LOST,), A), numbers(B, (), GAP_CELL), [], [1], [513]]
        before = [list(each) for each in lists]
        calls = [(i, j, x, y) for i in range(5) for j in range(5) for x in lists for y in lists]
        first = [through(*call) for call in calls]
        self.assertEqual(lists, before)
        self.assertEqual([through(*call) for call in calls], first)
        self.assertEqual([through(*call) for call in reversed(calls)], first[::-1])
        self.assertEqual(lists, before)

    def test_answer_may_be_changed_without_harm(self):
        for place in ((0, 0), (1, 0), (2, 0)):
            answer = through(*place, [1, 5], [])
            expected = list(answer)
            answer.append(9)
            self.assertEqual(through(*place, [1, 5], []), expected)

    def test_one_list_as_both_rows(self):
        row = numbers(A, (LOST,), GAP_CELL, B)
        self.assertEqual(through(2, 2, row, row), [1])
        self.assertEqual(row, numbers(A, (LOST,), GAP_CELL, B))


class LongRows(ThroughCase):
    def test_words(self):
        self.check(0, 700, 700, [()] * 1498, [()] * 1498)
        self.check(6 * 300, 1000, 700, [()] * 1498, [()] * 1498)
        self.check(3 * 2996, 1498, 0, [()] * 1498, [()] * 1498)
        self.check(3 * 2996, 1200, 0, [()] * 2996, [])
        x = [(k,) for k in range(749)]
        self.check(6, 300, 299, x, x[1:] + [(749,)])
        self.check(12, 300, 300, x, x[1:] + [(749,)])

    def test_gaps(self):
        self.check(0, 1000, 20, [GAP_CELL] * 1498, [GAP_CELL] * 1498)
        self.check(0, 1, 1500, [GAP_CELL], [()] * 2995)
        self.check(3 * 1500, 0, 1500, [GAP_CELL], [()] * 2995)
        self.check(0, 2, 1500, [(), GAP_CELL], [()] * 2994)

    def test_longest_words(self):
        word = tuple(range(512))
        x, y = [word, word[::-1], word], [word, word]
        self.check(3, 2, 1, x, y)
        self.check(7, 2, 2, x, y)

    def test_what_cost_answers(self):
        x = numbers(*[(), GAP_CELL, (1,), (LOST,)] * 130)
        y = numbers(*[(1,), (2,), GAP_CELL, ()] * 130)
        self.assertEqual(through(0, 0, x, y), cost(x, y))
        self.assertEqual(through(520, 520, x, y), cost(x, y))


if __name__ == "__main__":
    unittest.main()
