"""The calls. x is the base's row, y the other's, both in numbers; s are steps; (i, j) is a place."""

from collation.first import first_steps
from collation.passages import moves_told
from collation.rests import least_cost
from collation.rests import least_cost_through
from collation.rows import refusal
from collation.rows import row_cells
from collation.rules import NO_COLLATION
from collation.rules import steps_cost

NO_PLACE = -4


def rows_refusal(x, y):
    """The refusal of x, else that of y; 0 if both are rows."""
    refused = refusal(x)
    if refused < 0:
        return refused
    return refusal(y)


def cost(x, y):
    """The least cost of a collation of x and y, or the refusal."""
    refused = rows_refusal(x, y)
    if refused < 0:
        return [refused]
    return [least_cost(row_cells(x), row_cells(y))]


def steps(x, y):
    """The steps of the first of the least collations of x and y, or the refusal."""
    refused = rows_refusal(x, y)
    if refused < 0:
        return [refused]
    return first_steps(row_cells(x), row_cells(y))


def judge(x, y, s):
    """The cost of the steps s, or the refusal of x, of y, or of s as no collation of the two."""
    refused = rows_refusal(x, y)
    if refused < 0:
        return [refused]
    return [steps_cost(row_cells(x), row_cells(y), s)]


def through(i, j, x, y):
    """The least cost of a collation of x and y that goes through (i, j), or the refusal."""
    refused = rows_refusal(x, y)
    if refused < 0:
        return [refused]
    base = row_cells(x)
    other = row_cells(y)
    if i > len(base) or j > len(other):
        return [NO_PLACE]
    return [least_cost_through(base, other, i, j)]


def moves(x, y, s):
    """Of the collation s for each move told where it begins in x, in y, and its count of words, or the refusal."""
    refused = rows_refusal(x, y)
    if refused < 0:
        return [refused]
    base = row_cells(x)
    other = row_cells(y)
    if steps_cost(base, other, s) == NO_COLLATION:
        return [NO_COLLATION]
    answer = []
    for move in moves_told(base, other, s):
        answer.extend([move.base_start, move.other_start, move.count])
    return answer
