"""How far deeds reach to the end of the rows (12)."""

from widerows.machines import work_of
from widerows.waits import waits_of


def reaches_by(works, waits):
    """The reach of each deed, by the works of the deeds and by their waits, rising."""
    known = [comes for name, holds, comes in works]
    # A deed is waited for by later ones alone, so from behind each reach is known when it is asked for.
    for i, j, many in waits[::-1]:
        known[i] = max(known[i], many + known[j])
    return tuple(known)


def reaches(machine, stretch, papers=None):
    """The reach of each deed: the greatest sum of waits from it on, and comes of the last one."""
    works = [work_of(machine, deed) for deed in stretch[1]]
    return reaches_by(works, waits_of(machine, stretch, papers))
