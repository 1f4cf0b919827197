"""Rows: which numbers are a row's, what its cells are, what two words cost beside one another."""

GAP = 4294967295
LOST = 16777216
LETTERS_END = 2097152
LONGEST_WORD = 512
MOST_NUMBERS = 1048576
MOST_CELLS = 4096

NO_ROW = -1
TOO_MANY_CELLS = -2

ALIKE_COST = 0
FIT_COST = 1
UNLIKE_COST = 4


def is_letter(number):
    return number < LETTERS_END or number == LOST


def cell_end(numbers, start):
    """Where the cell that begins at start ends; NO_ROW if no cell begins there."""
    kind = numbers[start]
    if kind == GAP:
        return start + 1
    end = start + 1 + kind
    if kind > LONGEST_WORD or end > len(numbers):
        return NO_ROW
    for place in range(start + 1, end):
        if not is_letter(numbers[place]):
            return NO_ROW
    return end


def refusal(numbers):
    """The refusal of numbers as a row; 0 if they are a row's."""
    if len(numbers) > MOST_NUMBERS:
        return NO_ROW
    cells = 0
    place = 0
    while place < len(numbers):
        place = cell_end(numbers, place)
        if place == NO_ROW:
            return NO_ROW
        cells += 1
    # Only here: a wrong number behind the last cell allowed is told ahead of too many cells.
    if cells > MOST_CELLS:
        return TOO_MANY_CELLS
    return 0


def row_cells(numbers):
    """The cells of numbers that are a row's: a word as the tuple of its letters, a gap as None."""
    cells = []
    place = 0
    while place < len(numbers):
        end = cell_end(numbers, place)
        if numbers[place] == GAP:
            cells.append(None)
        else:
            cells.append(tuple(numbers[place + 1:end]))
        place = end
    return cells


def are_alike(word, other):
    # A lost letter may have been any: a word that has one is not even alike itself.
    return word == other and LOST not in word


def pair_cost(word, other):
    """What a word costs beside another."""
    if are_alike(word, other):
        return ALIKE_COST
    if len(word) != len(other):
        return UNLIKE_COST
    for letter, beside in zip(word, other):
        if letter != beside and letter != LOST and beside != LOST:
            return UNLIKE_COST
    return FIT_COST
