"""Passages moved: words missing in one place that were added in another."""

from collation.rows import are_alike
from collation.rules import ADDED_WORD
from collation.rules import BASE_TAKEN
from collation.rules import MISSING_WORD
from collation.rules import OTHER_TAKEN

# One word alone that stands elsewhere is no passage.
SHORTEST_MOVE = 2


# A row's cells, and for each the number of the run that it is in, None if it is in none.
class Runs:
    def __init__(self, cells, numbers):
        self.cells = cells
        self.numbers = numbers


# Some words one behind another of the base and as many of the other row; count is how many.
class Move:
    def __init__(self, base_start, other_start, count):
        self.base_start = base_start
        self.other_start = other_start
        self.count = count


def run_numbers(told, kind, taken):
    """For each cell of a row the number of its run of steps of a kind, None if it is in none.

    taken[step] is how many cells of the row a step takes.
    """
    numbers = []
    for turn, step in enumerate(told):
        if step == kind and turn > 0 and told[turn - 1] == kind:
            numbers.append(numbers[-1])
        elif step == kind:
            # A run is numbered by its first step's turn: no two runs share it.
            numbers.append(turn)
        elif taken[step] == 1:
            numbers.append(None)
    return numbers


def goes_on(numbers, cell):
    """Whether the cell behind one in a run is in the same run."""
    return cell + 1 < len(numbers) and numbers[cell + 1] == numbers[cell]


def counts_at(missing, added, cell, behind):
    """How many words from a cell of the base on are alike those from each cell of the other row on.

    Words count that are in a run each; behind are the counts at the base's next cell.
    """
    counts = [0] * len(added.cells)
    if missing.numbers[cell] is None:
        return counts
    going_on = goes_on(missing.numbers, cell)
    for beside, word in enumerate(added.cells):
        if added.numbers[beside] is not None and are_alike(missing.cells[cell], word):
            counts[beside] = 1
            if going_on and goes_on(added.numbers, beside):
                counts[beside] += behind[beside + 1]
    return counts


def greatest_move(missing, added):
    """Of the moves of the greatest count the earliest in the base, then in the other row.

    Its count may be below that of the shortest move: then there is none.
    """
    greatest = Move(0, 0, 0)
    counts = [0] * len(added.cells)
    for cell in range(len(missing.cells) - 1, -1, -1):
        counts = counts_at(missing, added, cell, counts)
        for beside in range(len(counts) - 1, -1, -1):
            # Walked from the ends: of equals the one met later is the earlier one.
            if counts[beside] >= greatest.count:
                greatest = Move(cell, beside, counts[beside])
    return greatest


def without(runs, start, count):
    """The runs without so many cells from a start on."""
    numbers = list(runs.numbers)
    for cell in range(start, start + count):
        numbers[cell] = None
    return Runs(runs.cells, numbers)


def moves_told(base, other, told):
    """The moves of a collation of two rows' cells, in the order in which they are told."""
    missing = Runs(base, run_numbers(told, MISSING_WORD, BASE_TAKEN))
    added = Runs(other, run_numbers(told, ADDED_WORD, OTHER_TAKEN))
    moves = []
    move = greatest_move(missing, added)
    while move.count >= SHORTEST_MOVE:
        moves.append(move)
        missing = without(missing, move.base_start, move.count)
        added = without(added, move.other_start, move.count)
        move = greatest_move(missing, added)
    return moves
