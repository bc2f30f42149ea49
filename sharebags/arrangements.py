"""Rows of things of the kinds 0, 1, .., so many of each kind: how many there are, and their numbers.

Rows are compared as lists.
"""

from math import factorial


def count_arrangements(counts):
    """The number of rows with so many things of each kind."""
    found = factorial(sum(counts))
    for many in counts:
        found = found // factorial(many)
    return found


def arrangement_number(counts, row):
    """The number of a row among those with so many things of each kind."""
    left = list(counts)
    number = 0
    for kind in row:
        # A kind stands first in as great a share of the rows as it has of the things.
        number += count_arrangements(left) * sum(left[:kind]) // sum(left)
        left[kind] -= 1
    return number


def arrangement_at(counts, number):
    """The row with a number among those with so many things of each kind."""
    left = list(counts)
    behind = number
    row = []
    for _ in range(sum(counts)):
        rows, things = count_arrangements(left), sum(left)
        kind = 0
        while behind >= rows * left[kind] // things:
            behind -= rows * left[kind] // things
            kind += 1
        row.append(kind)
        left[kind] -= 1
    return row
