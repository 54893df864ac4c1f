"""Rows laid at once (12)."""

from widerows.machines import many_of, work_of
from widerows.reach import reaches_by
from widerows.waits import waits_of


def waited_for(waits, many):
    """For each of so many deeds the pairs (earlier deed, rows) that it waits for."""
    ahead = [[] for k in range(many)]
    for i, j, wait in waits:
        ahead[j].append((i, wait))
    return ahead


def are_over(ahead, rows, row):
    """Whether these waits are over in a row; rows is None for a deed that isn't begun."""
    return all(rows[i] is not None and rows[i] + wait <= row for i, wait in ahead)


def is_free(machine, works, rows, row, name):
    """Whether a unit of a name is free from a row on, no deed being begun behind that row."""
    held = 0
    for work, begun in zip(works, rows):
        if work[0] == name and begun is not None and begun + work[1] > row:
            held += 1
    return held < many_of(machine, name)


def lay(machine, works, waits, firsts, order):
    """Rows laid row by row, no deed ahead of its first row, of deeds that may be begun the one first in order."""
    ahead = waited_for(waits, len(works))
    rows = [None] * len(works)
    row = 0
    left = list(order)
    while left:
        for k in left:
            if firsts[k] <= row and are_over(ahead[k], rows, row) and is_free(machine, works, rows, row, works[k][0]):
                rows[k] = row
                break
        else:
            row += 1
        left = [k for k in left if rows[k] is None]
    return tuple(rows)


def laid(machine, stretch, papers=None):
    """Rows laid at once: the greatest reach first, of these the least number."""
    works = [work_of(machine, deed) for deed in stretch[1]]
    waits = waits_of(machine, stretch, papers)
    known = reaches_by(works, waits)
    order = sorted(range(len(works)), key=lambda k: (-known[k], k))
    return lay(machine, works, waits, [0] * len(works), order)
