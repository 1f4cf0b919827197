"""The seven steps: where each may stand, what it costs, where it leads; which are a collation."""

from collation.rows import pair_cost

PAIR = 0
LOST_WORD = 1
SPARED_WORD = 2
MISSING_WORD = 3
ADDED_WORD = 4
BASE_GAP = 5
OTHER_GAP = 6
STEP_COUNT = 7

# How many cells each step takes of the base, and of the other row.
BASE_TAKEN = (1, 1, 0, 1, 0, 1, 0)
OTHER_TAKEN = (1, 0, 1, 0, 1, 0, 1)

# What a step of one word alone costs that no gap accounts for.
ALONE_COST = 3

NO_COLLATION = -6


# How many cells some steps, from the beginning, have taken of the base and of the other row, and
# the last of these steps (None if there is none): what may follow depends on it.
class Place:
    def __init__(self, base_taken, other_taken, last):
        self.base_taken = base_taken
        self.other_taken = other_taken
        self.last = last


def beginning():
    return Place(0, 0, None)


def is_ending(base, other, place):
    """Whether a place is the end of both rows."""
    return place.base_taken == len(base) and place.other_taken == len(other)


def is_behind_other_gap(place):
    """Whether the other's gap may have held the base's next word."""
    return place.last == OTHER_GAP or place.last == LOST_WORD


def is_behind_base_gap(place):
    """Whether the base's gap may have held the other's next word."""
    return place.last == BASE_GAP or place.last == SPARED_WORD


def is_word(cells, number):
    return number < len(cells) and cells[number] is not None


def is_gap(cells, number):
    return number < len(cells) and cells[number] is None


def may_stand(base, other, place, step):
    """Whether a step may stand at a place; a number that is no step may stand nowhere."""
    if step == PAIR:
        return is_word(base, place.base_taken) and is_word(other, place.other_taken)
    if step == LOST_WORD:
        return is_word(base, place.base_taken) and is_behind_other_gap(place)
    if step == SPARED_WORD:
        return is_word(other, place.other_taken) and is_behind_base_gap(place)
    if step == MISSING_WORD:
        return is_word(base, place.base_taken)
    if step == ADDED_WORD:
        return is_word(other, place.other_taken)
    if step == BASE_GAP:
        return is_gap(base, place.base_taken)
    if step == OTHER_GAP:
        return is_gap(other, place.other_taken)
    return False


def step_cost(base, other, place, step):
    """What a step costs at a place where it may stand."""
    if step == PAIR:
        return pair_cost(base[place.base_taken], other[place.other_taken])
    if step == MISSING_WORD or step == ADDED_WORD:
        return ALONE_COST
    return 0


def place_behind(place, step):
    """The place that a step leads to."""
    return Place(place.base_taken + BASE_TAKEN[step], place.other_taken + OTHER_TAKEN[step], step)


def steps_cost(base, other, told):
    """What some numbers cost as the steps of a collation; NO_COLLATION if they are none."""
    place = beginning()
    total = 0
    for step in told:
        if not may_stand(base, other, place, step):
            return NO_COLLATION
        total += step_cost(base, other, place, step)
        place = place_behind(place, step)
    if not is_ending(base, other, place):
        return NO_COLLATION
    return total
