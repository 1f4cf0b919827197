"""Rows that several tests use: words, wrong numbers, all rows of some cells."""

import itertools

from tests.reckoning import GAP, LOST, numbers

A, B, C, D = (1, 2), (3, 4), (5, 6), (7, 8)
NO_ROWS = (
    [513] + [0] * 513,
    [513],
    [GAP - 1],
    [GAP + 1],
    [2 ** 64 - 1],
    [LOST],
    [1, 2 ** 21],
    [1, 2 ** 24 - 1],
    [1, 2 ** 24 + 1],
    [1, GAP],
    [1, 2 ** 64 - 1],
    [1],
    [3, 1, 2],
    [512] + [0] * 511,
    [0, GAP, 1, 5, 2, 6],
    [GAP, 0, 600],
    [2, 1, 2 ** 21, 0],
)


def rows(cells, most):
    """All rows of at most so many of these cells, in numbers."""
    return [numbers(*row) for n in range(most + 1) for row in itertools.product(cells, repeat=n)]
