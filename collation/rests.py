"""What is left to pay, at the least, from each place of two rows to their ends; the least cost."""

from collation.rows import pair_cost
from collation.rules import ALONE_COST
from collation.rules import is_behind_base_gap
from collation.rules import is_behind_other_gap


# The least costs of the rest where so many cells of the base are taken and 0, 1, 2 .. of the other
# row. plain[j]: neither step 1 nor step 2 may stand next; held[j]: step 1 may, since the other's
# gap, or words it has the place of, come right ahead; spared[j]: step 2 may, likewise.
class Line:
    def __init__(self, plain, held, spared):
        self.plain = plain
        self.held = held
        self.spared = spared


def spared_rests(plain, other):
    """The rests where step 2 may stand next, out of those where it may not."""
    spared = list(plain)
    for j in range(len(other) - 1, -1, -1):
        if other[j] is not None and spared[j + 1] < spared[j]:
            spared[j] = spared[j + 1]
    return spared


def nothing_left():
    """The line at both rows' ends: nothing is left to pay."""
    return Line([0], [0], [0])


def line_at_end(other, behind):
    """The line where all cells of the base's part are taken.

    other is a part of the other row, too; behind is the line that begins where both parts end.
    """
    end = len(other)
    plain = [0] * end + [behind.plain[0]]
    held = [0] * end + [behind.held[0]]
    spared = [0] * end + [behind.spared[0]]
    for j in range(end - 1, -1, -1):
        if other[j] is None:
            # What this gap may have held can lie behind the parts' end.
            plain[j] = held[j + 1]
            spared[j] = plain[j]
        else:
            plain[j] = plain[j + 1] + ALONE_COST
            spared[j] = spared[j + 1]
        held[j] = plain[j]
    return Line(plain, held, spared)


def line_at_word(line, other, prices):
    """The line where a word is next in the base, out of the line behind it.

    prices[j] is what the word costs beside other[j].
    """
    behind = line.plain
    end = len(other)
    plain = [0] * end + [behind[end] + ALONE_COST]
    for j in range(end - 1, -1, -1):
        missing = behind[j] + ALONE_COST
        if other[j] is None:
            # Behind the other's gap this word may be the first that the gap has the place of.
            plain[j] = min(missing, plain[j + 1], line.held[j + 1])
        else:
            plain[j] = min(behind[j + 1] + prices[j], missing, plain[j + 1] + ALONE_COST)
    held = [lost if lost < rest else rest for rest, lost in zip(plain, line.held)]
    return Line(plain, held, spared_rests(plain, other))


def line_at_gap(line, other):
    """The line where a gap is next in the base, out of the line behind it."""
    end = len(other)
    plain = [0] * end + [line.spared[end]]
    for j in range(end - 1, -1, -1):
        if other[j] is None:
            plain[j] = min(line.spared[j], plain[j + 1])
        else:
            plain[j] = min(line.spared[j], plain[j + 1] + ALONE_COST)
    # No gap of the other row has a gap's place: held is plain here.
    return Line(plain, plain, spared_rests(plain, other))


def word_prices(word, other):
    """What a word costs beside each cell of the other row; 0 stands where that is a gap."""
    return [0 if cell is None else pair_cost(word, cell) for cell in other]


def line_ahead(line, cell, other, prices):
    """The line where a cell is next in the base; prices keeps those of words met before.

    Words come again and again in a row: each is held against the other row once.
    """
    if cell is None:
        return line_at_gap(line, other)
    if cell not in prices:
        prices[cell] = word_prices(cell, other)
    return line_at_word(line, other, prices[cell])


def first_line(base, other, behind):
    """The line where no cell is taken of a part of the base; other and behind as in line_at_end."""
    line = line_at_end(other, behind)
    prices = {}
    for cell in reversed(base):
        line = line_ahead(line, cell, other, prices)
    return line


def least_cost(base, other):
    """The least cost of a collation of two rows' cells."""
    return first_line(base, other, nothing_left()).plain[0]


def least_cost_through(base, other, i, j):
    """The least cost of a collation that goes through (i, j), a place of the two rows."""
    behind = first_line(base[i:], other[j:], nothing_left())
    return first_line(base[:i], other[:j], behind).plain[0]


def all_lines(base, other):
    """The lines where 0, 1, 2 .. cells of the base are taken, up to all."""
    line = line_at_end(other, nothing_left())
    lines = [line]
    prices = {}
    for cell in reversed(base):
        line = line_ahead(line, cell, other, prices)
        lines.append(line)
    lines.reverse()
    return lines


def rest_at(lines, place):
    """The least cost of the rest from a place on."""
    line = lines[place.base_taken]
    if is_behind_other_gap(place):
        return line.held[place.other_taken]
    if is_behind_base_gap(place):
        return line.spared[place.other_taken]
    return line.plain[place.other_taken]
