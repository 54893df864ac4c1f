"""Trees that no rows have at most a length (13)."""

from widerows.machines import many_of, work_of
from widerows.things import is_tuple_of, is_whole, is_whole_within
from widerows.unlike import papers_hold
from widerows.waits import waits_of
from widerows.windows import narrowed, part_ahead, part_from


def whole_windows(works, length):
    """The windows that a length leaves to deeds with these works."""
    return tuple([(0, length - comes) for name, holds, comes in works])


def rows_shared(row, holds, start, behind):
    """How many of the rows held from a row on lie from start to the one ahead of behind."""
    return max(0, min(row + holds, behind) - max(row, start))


def surely_held(works, windows, name, start, behind):
    """How many rows the deeds of a unit hold from start to the one ahead of behind, wherever they are begun."""
    held = 0
    for work, window in zip(works, windows):
        if work[0] == name:
            held += min(rows_shared(window[0], work[1], start, behind), rows_shared(window[1], work[1], start, behind))
    return held


def is_crowd(machine, works, windows, thing):
    """Whether a thing that says crowd is a knot by narrowed windows, or by None."""
    if not is_tuple_of(thing, 4):
        return False
    word, name, start, behind = thing
    if not isinstance(name, str) or name not in dict(machine[0]):
        return False
    if not is_whole(start) or not is_whole(behind) or start >= behind:
        return False
    if windows is None:
        return True
    return surely_held(works, windows, name, start, behind) > many_of(machine, name) * (behind - start)


def is_split(machine, works, waits, windows, thing):
    """Whether a thing that says split is a knot by narrowed windows, or by None."""
    if not is_tuple_of(thing, 5):
        return False
    word, k, row, one, other = thing
    if not is_whole_within(k, 0, len(works) - 1) or not is_whole(row):
        return False
    if windows is None:
        return is_knot(machine, works, waits, None, one) and is_knot(machine, works, waits, None, other)
    if not is_knot(machine, works, waits, part_ahead(windows, k, row), one):
        return False
    return is_knot(machine, works, waits, part_from(windows, k, row), other)


def is_knot(machine, works, waits, windows, thing):
    """Whether a thing, of anything, is a knot by windows; None stands for windows in which nothing can be."""
    if not isinstance(thing, tuple) or not thing:
        return False
    narrow = None if windows is None else narrowed(waits, windows)
    word = thing[0]
    if word == "waits":
        return len(thing) == 1 and narrow is None
    if word == "crowd":
        return is_crowd(machine, works, narrow, thing)
    return word == "split" and is_split(machine, works, waits, narrow, thing)


def tree_holds(machine, stretch, length, tree, papers=None):
    """Whether a thing, of anything, is a tree that no rows that hold have at most this length."""
    if papers is not None and not papers_hold(stretch, papers):
        return False
    works = [work_of(machine, deed) for deed in stretch[1]]
    waits = waits_of(machine, stretch, papers)
    return is_knot(machine, works, waits, whole_windows(works, length), tree)
