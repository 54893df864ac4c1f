"""From which row to which row worths live (15)."""

from widerows.deeds import named_by
from widerows.machines import work_of
from widerows.rows import length_of


def last_named(stretch, rows, length):
    """A dict of the worths that somebody names and the last row in which each is needed."""
    lasts = {}
    for deed, row in zip(stretch[1], rows):
        for worth in named_by(deed):
            lasts[worth] = max(row, lasts.get(worth, row))
    for worth in stretch[2]:
        lasts[worth] = length
    return lasts


def lives_of(machine, stretch, rows):
    """For each worth (first, last) of the rows in which it lives, or None where nobody names it."""
    givens, deeds, outs = stretch
    firsts = [0] * givens + [row + work_of(machine, deed)[2] for deed, row in zip(deeds, rows)]
    lasts = last_named(stretch, rows, length_of(machine, stretch, rows))
    return tuple([(first, lasts[worth]) if worth in lasts else None for worth, first in enumerate(firsts)])
