"""Deeds moved up past the choice of a fork (19)."""

from widerows.deeds import named_by, renamed
from widerows.errors import NoMove
from widerows.forks import side_of
from widerows.things import is_tuple_of, is_whole, is_whole_within
from widerows.unlike import paper_holds


def parts_of(fork, side):
    """(deeds, outs) of a side, "yes" or "no"."""
    return fork[3] if side == "yes" else fork[4]


def has_paper(fork, side, i, k, papers):
    """Whether some paper shows the places of a side's deeds i and k unlike."""
    stretch, many = side_of(fork, side), len(fork[1])
    told = [entry[1] for entry in papers if is_tuple_of(entry, 2) and is_whole(entry[0]) and entry[0] == i]
    return any(paper_holds(stretch, many + i, many + k, paper) for paper in told)


def may_pass_writes(fork, side, k, papers):
    """Whether papers let a side's read k pass each write ahead of it in its side."""
    # Papers that are no tuple don't hold, so there are none.
    told = papers if isinstance(papers, tuple) else ()
    ahead = parts_of(fork, side)[0][:k]
    return all(deed[0] != "write" or has_paper(fork, side, i, k, told) for i, deed in enumerate(ahead))


def may_move(fork, side, k, papers=None):
    """Whether deed k of a side may be moved up."""
    deed = parts_of(fork, side)[0][k]
    if deed[0] in ("write", "share"):
        return False
    first = fork[0] + len(fork[1])
    if any(worth >= first for worth in named_by(deed)):
        return False
    return deed[0] != "read" or may_pass_writes(fork, side, k, papers)


def side_renamed(part, names):
    """The side (deeds, outs) with other numbers for worths, by a dict."""
    deeds, outs = part
    return (tuple([renamed(deed, names) for deed in deeds]), tuple([names.get(worth, worth) for worth in outs]))


def moved(fork, side, k):
    """The fork with deed k of a side, which may be moved up, at the end of head."""
    givens, head, test, yes, no = fork
    deeds, outs = parts_of(fork, side)
    first = givens + len(head)
    # In its own side the deeds behind the moved one keep their numbers, as it still stands ahead of them.
    own = {first + at: first + at + 1 for at in range(k)}
    own[first + k] = first
    left = side_renamed((deeds[:k] + deeds[k + 1:], outs), own)
    other = no if side == "yes" else yes
    rest = side_renamed(other, {first + at: first + at + 1 for at in range(len(other[0]))})
    sides = (left, rest) if side == "yes" else (rest, left)
    return (givens, head + (deeds[k],), test) + sides


def moved_up(fork, side, k, papers=None):
    """The fork with deed k of a side moved up to the end of head, or NoMove."""
    if side not in ("yes", "no") or not is_whole_within(k, 0, len(parts_of(fork, side)[0]) - 1):
        raise NoMove("there is no such deed")
    if not may_move(fork, side, k, papers):
        raise NoMove(f"deed {k} of {side} may not be moved up")
    return moved(fork, side, k)


def first_to_move(fork, side):
    """The first deed of a side that may be moved up without papers, or None."""
    for k in range(len(parts_of(fork, side)[0])):
        if may_move(fork, side, k):
            return k
    return None


def all_up(fork):
    """The fork with all deeds moved up that may be without papers, first of yes, then of no."""
    for side in ("yes", "no"):
        k = first_to_move(fork, side)
        while k is not None:
            fork = moved(fork, side, k)
            k = first_to_move(fork, side)
    return fork
