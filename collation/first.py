"""The first of the least collations."""

from collation.rests import all_lines
from collation.rests import rest_at
from collation.rules import STEP_COUNT
from collation.rules import beginning
from collation.rules import is_ending
from collation.rules import may_stand
from collation.rules import place_behind
from collation.rules import step_cost


def first_step(base, other, lines, place):
    """Of the steps that lead from a place to the ends at the least cost, the lesser number."""
    least = 0
    first = None
    for step in range(STEP_COUNT):
        if may_stand(base, other, place, step):
            rest = step_cost(base, other, place, step) + rest_at(lines, place_behind(place, step))
            # Of equals the one met before stays, so the lesser number.
            if first is None or rest < least:
                least = rest
                first = step
    return first


def first_steps(base, other):
    """The steps of the first of the least collations of two rows' cells."""
    lines = all_lines(base, other)
    place = beginning()
    told = []
    while not is_ending(base, other, place):
        step = first_step(base, other, lines, place)
        told.append(step)
        place = place_behind(place, step)
    return told
