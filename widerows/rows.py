"""Rows that hold, and their length (10)."""

from widerows.machines import work_of
from widerows.things import is_tuple_of, is_whole_from
from widerows.unlike import papers_hold
from widerows.waits import waits_of


def are_rows(thing, many):
    """Whether a thing is a tuple of so many rows."""
    return is_tuple_of(thing, many) and all(is_whole_from(row, 0) for row in thing)


def waits_kept(waits, rows):
    """Whether each deed waits as it must."""
    return all(rows[j] >= rows[i] + many for i, j, many in waits)


def spans_of(machine, deeds, rows, name):
    """The rows in which a unit is held by each of its deeds: (first, behind the last)."""
    spans = []
    for deed, row in zip(deeds, rows):
        unit, holds, comes = work_of(machine, deed)
        if unit == name:
            spans.append((row, row + holds))
    return spans


def held_in(spans, row):
    """How many spans a row lies in."""
    return len([1 for first, behind in spans if first <= row < behind])


def units_do(machine, deeds, rows):
    """Whether in no row more units are held than there are."""
    for name, many in machine[0]:
        spans = spans_of(machine, deeds, rows, name)
        # The most are held in a row in which one is begun, so the others need no look.
        if any(held_in(spans, first) > many for first, behind in spans):
            return False
    return True


def rows_hold(machine, stretch, rows, papers=None):
    """Whether rows hold by a machine and papers; rows and papers may be anything."""
    deeds = stretch[1]
    if papers is not None and not papers_hold(stretch, papers):
        return False
    if not are_rows(rows, len(deeds)):
        return False
    return waits_kept(waits_of(machine, stretch, papers), rows) and units_do(machine, deeds, rows)


def length_of(machine, stretch, rows):
    """The greatest row + comes of all deeds, 0 without deeds."""
    return max([row + work_of(machine, deed)[2] for deed, row in zip(stretch[1], rows)], default=0)
