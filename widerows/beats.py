"""Rows of a loop that hold by a beat (22)."""

from widerows.loopwaits import loop_waits
from widerows.machines import work_of
from widerows.rows import are_rows
from widerows.things import is_whole_from
from widerows.unlike import papers_hold


def held_at(holds, row, beat, rest):
    """How many of the rows held from a row on differ from a rest by whole beats."""
    # The first of them lies so far behind the row, the others a beat behind one another; none may be held.
    behind = (rest - row) % beat
    return 1 + (holds - 1 - behind) // beat


def held_together(spans, beat, rest):
    """How many units are held at a rest by spans, each (holds, the row or the rest in which it is begun)."""
    return sum([held_at(holds, row, beat, rest) for holds, row in spans])


def beat_waits_kept(waits, beat, rows):
    """Whether each deed waits as it must, over rounds too."""
    return all(rows[j] + beat * rounds >= rows[i] + many for i, j, many, rounds in waits)


def beat_units_do(machine, works, beat, rows):
    """Whether no more units are held than there are, rows that differ by whole beats counted together."""
    for name, many in machine[0]:
        spans = [(work[1], row) for work, row in zip(works, rows) if work[0] == name]
        # The most are held at a rest at which one is begun, so the others need no look.
        if any(held_together(spans, beat, row) > many for holds, row in spans):
            return False
    return True


def beat_holds(machine, loop, beat, rows, papers=None):
    """Whether rows of a loop hold by a beat; both may be anything."""
    givens, deeds, carried = loop
    if papers is not None and not papers_hold((givens, deeds, ()), papers):
        return False
    if not is_whole_from(beat, 1) or not are_rows(rows, len(deeds)):
        return False
    works = [work_of(machine, deed) for deed in deeds]
    return beat_waits_kept(loop_waits(machine, loop, papers), beat, rows) and beat_units_do(machine, works, beat, rows)
