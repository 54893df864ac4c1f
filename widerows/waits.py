"""How many rows deeds wait for one another (7, 9)."""

from widerows.deeds import named_by
from widerows.machines import work_of
from widerows.unlike import may_clash, papers_hold


def share_counts(one, other):
    """Whether two deeds are writes or shares, not both writes: a fault must find the store as it is then."""
    words = (one[0], other[0])
    return "share" in words and all(word in ("share", "write") for word in words)


def on_one_spot(one, other):
    """Whether two deeds keep or fetch at one spot, not both fetching."""
    words = (one[0], other[0])
    if "keep" not in words or not all(word in ("keep", "fetch") for word in words):
        return False
    return one[-1] == other[-1]


def pairs_lifted(stretch, papers):
    """A dict of the pairs that papers show unlike; papers that don't hold show nothing."""
    if papers is None or not papers_hold(stretch, papers):
        return {}
    return {(i, j): True for i, j, paper in papers}


def waits_of(machine, stretch, papers=None):
    """The tuple of (i, j, so many rows), rising, each pair once."""
    givens, deeds, outs = stretch
    lifted = pairs_lifted(stretch, papers)
    names = [named_by(deed) for deed in deeds]
    waits = []
    for i, earlier in enumerate(deeds):
        comes = work_of(machine, earlier)[2]
        for j in range(i + 1, len(deeds)):
            later = deeds[j]
            by_place = may_clash(earlier, later) and (i, j) not in lifted
            if givens + i in names[j]:
                waits.append((i, j, comes))
            elif by_place or share_counts(earlier, later) or on_one_spot(earlier, later):
                waits.append((i, j, 0))
    return tuple(waits)
