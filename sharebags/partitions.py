"""Partitions of things into parts: how many there are, and their numbers among those with as many things.

A partition is told by its word: the list of the part of each thing, the parts being named 0, 1, .. in the order in
which they are begun. Words are compared as lists.
"""


def partitions_by_parts(things):
    """The list of the numbers of partitions of things into 0, 1, .., all parts."""
    row = [1]
    for _ in range(things):
        padded = [*row, 0]
        # One thing more lies in a part that is begun, or begins the last part.
        row = [0, *[parts * padded[parts] + padded[parts - 1] for parts in range(1, len(padded))]]
    return row


def all_partitions(things):
    """The number of partitions of things."""
    return sum(partitions_by_parts(things))


def word_number(word):
    """The number of a word among those with as many things and parts."""
    return _place_of(word, _endings(len(word), _ending_with(max(word) + 1)))


def word_at(things, parts, number):
    """The word with a number among those with so many things and parts."""
    return _word_placed(things, _endings(things, _ending_with(parts)), number)


def free_word_number(word):
    """The number of a word among those with as many things, in however many parts."""
    return _place_of(word, _endings(len(word), _ending_anyhow(len(word))))


def free_word_at(things, number):
    """The word with a number among those with so many things, in however many parts."""
    return _word_placed(things, _endings(things, _ending_anyhow(things)), number)


def _place_of(word, rows):
    """The number of a word among those that end as the rows tell."""
    number = 0
    begun = 0
    for place, part in enumerate(word):
        # Each lesser part is one that is begun: as many words go on behind it as behind any other of these.
        number += part * rows[len(word) - place - 1][begun]
        begun = max(begun, part + 1)
    return number


def _word_placed(things, rows, number):
    """The word with a number among those that end as the rows tell."""
    left = number
    word = []
    begun = 0
    for place in range(things):
        each = rows[things - place - 1][begun]
        if left < begun * each:
            part, left = divmod(left, each)
            word.append(part)
        else:
            word.append(begun)
            left = left - begun * each
            begun += 1
    return word


def _ending_with(parts):
    """For 0, 1, .., parts begun at the end of a word 1 if it may end so, else 0: with all parts alone."""
    return [0] * parts + [1]


def _ending_anyhow(things):
    """The same for words of so many things that may end with any number of parts."""
    return [1] * (things + 1)


def _endings(things, last):
    """For 0, 1, .., things left, the list of the numbers of ways to go on with 0, 1, .. parts begun.

    They hold as far as the parts that are begun and those that the things left may begin are told by the last row: no
    word of these things has more.
    """
    rows = [last]
    for _ in range(things):
        padded = [*rows[-1], 0]
        rows.append([begun * padded[begun] + padded[begun + 1] for begun in range(len(last))])
    return rows
