"""Partitions of things into parts: how many there are, and their numbers among those with as many parts.

A partition is told by its word: the list of the part of each thing, the parts being named 0, 1, .. in the order in
which they are begun.
"""


def partitions_by_parts(things):
    """The list of the numbers of partitions of things into 0, 1, .., all parts."""
    row = [1]
    for _ in range(things):
        padded = [*row, 0]
        # One thing more lies in a part that is begun, or begins the last part.
        row = [0, *[parts * padded[parts] + padded[parts - 1] for parts in range(1, len(padded))]]
    return row


def all_partitions(things):
    """The number of partitions of things."""
    return sum(partitions_by_parts(things))


def word_number(word):
    """The number of a word among those with as many things and parts, compared as lists."""
    rows = _endings(len(word), max(word) + 1)
    number = 0
    begun = 0
    for place, part in enumerate(word):
        # Each lesser part is one that is begun: as many words go on behind it as behind any other of these.
        number += part * rows[len(word) - place - 1][begun]
        begun = max(begun, part + 1)
    return number


def word_at(things, parts, number):
    """The word with a number among those with so many things and parts."""
    rows = _endings(things, parts)
    word = []
    begun = 0
    for place in range(things):
        each = rows[things - place - 1][begun]
        if number < begun * each:
            word.append(number // each)
            number = number % each
        else:
            word.append(begun)
            number = number - begun * each
            begun += 1
    return word


def _endings(things, parts):
    """For 0, 1, .., things left, the list of the numbers of ways to go on with 0, 1, .., parts begun."""
    rows = [[0] * parts + [1]]
    for _ in range(things):
        last = [*rows[-1], 0]
        rows.append([begun * last[begun] + last[begun + 1] for begun in range(parts + 1)])
    return rows
