"""The calls. x is the base's row, y the other's, both in numbers."""

from collation.rows import pair_cost
from collation.rows import refusal
from collation.rows import row_cells

ALONE_COST = 3


# The least costs of the base's cells so far beside the first 0, 1, 2 .. cells of the other row.
# least[j] is that of all ways to come there. held[j] is that of the ways that end with the other's
# gap or with words it has the place of, so that one more such word may follow at no cost; it is
# meant, and read, only where the j-th cell of the other row is a gap.
class Line:
    def __init__(self, least, held):
        self.least = least
        self.held = held


def line_of_none(other):
    """The line of no cell of the base."""
    least = [0]
    held = [0]
    for j in range(len(other)):
        held.append(least[j])
        if other[j] is None:
            least.append(least[j])
        else:
            least.append(least[j] + ALONE_COST)
    return Line(least, held)


def line_behind_word(line, other, prices):
    """The line of one base's word more; prices[j] is what it costs beside other[j]."""
    above = line.least
    least = [above[0] + ALONE_COST]
    held = [least[0]]
    for j in range(len(other)):
        missing = above[j + 1] + ALONE_COST
        if other[j] is None:
            held.append(min(least[j], line.held[j + 1]))
            least.append(min(held[j + 1], missing))
        else:
            held.append(missing)
            least.append(min(above[j] + prices[j], missing, least[j] + ALONE_COST))
    return Line(least, held)


def line_behind_gap(line, other):
    """The line of one base's gap more."""
    above = line.least
    least = [above[0]]
    held = [above[0]]
    # Of the ways that end with this gap or with words it spares: one more may follow at no cost.
    sparing = above[0]
    for j in range(len(other)):
        held.append(least[j])
        if other[j] is None:
            sparing = above[j + 1]
            least.append(min(sparing, least[j]))
        else:
            sparing = min(sparing, above[j + 1])
            least.append(min(sparing, least[j] + ALONE_COST))
    return Line(least, held)


def word_prices(word, other):
    """What a word costs beside each cell of the other row; 0 stands where that is a gap."""
    return [0 if cell is None else pair_cost(word, cell) for cell in other]


def least_cost(base, other):
    """The least cost of a collation of two rows' cells."""
    line = line_of_none(other)
    # Words come again and again in a row: each is held against the other row once.
    prices = {}
    for cell in base:
        if cell is None:
            line = line_behind_gap(line, other)
        else:
            if cell not in prices:
                prices[cell] = word_prices(cell, other)
            line = line_behind_word(line, other, prices[cell])
    return line.least[len(other)]


def rows_refusal(x, y):
    """The refusal of x, else that of y; 0 if both are rows."""
    refused = refusal(x)
    if refused < 0:
        return refused
    return refusal(y)


def cost(x, y):
    """The least cost of a collation of x and y, or the refusal."""
    refused = rows_refusal(x, y)
    if refused < 0:
        return [refused]
    return [least_cost(row_cells(x), row_cells(y))]
