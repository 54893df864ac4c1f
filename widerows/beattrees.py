"""Trees that no rows of a loop hold by a beat (23)."""

from widerows.beats import held_together
from widerows.loopwaits import loop_waits
from widerows.machines import many_of, work_of
from widerows.things import is_tuple_of, is_whole_within
from widerows.unlike import papers_hold


def counts_of(waits, beat):
    """A dict of what the waits (i, j) of a loop count, rests not known: of several the most."""
    counts = {}
    for i, j, rows, rounds in waits:
        count = rows - beat * rounds
        counts[i, j] = max(count, counts.get((i, j), count))
    return counts


def count_by(counts, beat, rests, i, j):
    """What the wait of deed j for deed i counts; a rest that isn't known is None."""
    count, u, v = counts[i, j], rests[i], rests[j]
    return count if u is None or v is None else count + (v - u - count) % beat


def with_rest(rests, k, rest):
    """Rests with that of deed k known."""
    return rests[:k] + (rest,) + rests[k + 1:]


def known_spans(works, rests, name):
    """(holds, rest) of each deed of a unit whose rest is known."""
    return [(work[1], rest) for work, rest in zip(works, rests) if work[0] == name and rest is not None]


class Checker:
    """Tells by a machine, the works and the waits of a loop's deeds and a beat whether things are knots."""

    def __init__(self, machine, works, waits, beat):
        self.machine = machine
        self.works = works
        self.beat = beat
        self.counts = counts_of(waits, beat)

    def is_deed_number(self, thing):
        """Whether a thing is the number of a deed."""
        return is_whole_within(thing, 0, len(self.works) - 1)

    def is_unit_name(self, thing):
        """Whether a thing names a unit of the machine."""
        # A list or a dict can't be looked up among the names, so this is asked first.
        return isinstance(thing, str) and thing in dict(self.machine[0])

    def is_ring(self, rests, thing):
        """Whether a thing that says ring is a knot by these rests."""
        if not is_tuple_of(thing, 2) or not isinstance(thing[1], tuple):
            return False
        # A ring of no deeds counts 0, and so it is none.
        ring = thing[1]
        if not all(self.is_deed_number(k) for k in ring):
            return False
        pairs = list(zip(ring[-1:] + ring[:-1], ring))
        if not all(pair in self.counts for pair in pairs):
            return False
        return sum([count_by(self.counts, self.beat, rests, i, j) for i, j in pairs]) > 0

    def is_full(self, thing):
        """Whether a thing that says full is a knot."""
        if not is_tuple_of(thing, 2) or not self.is_unit_name(thing[1]):
            return False
        held = sum([holds for name, holds, comes in self.works if name == thing[1]])
        return held > self.beat * many_of(self.machine, thing[1])

    def is_crowd_at(self, rests, thing):
        """Whether a thing that says crowd is a knot by these rests."""
        if not is_tuple_of(thing, 3) or not self.is_unit_name(thing[1]):
            return False
        word, name, rest = thing
        if not is_whole_within(rest, 0, self.beat - 1):
            return False
        spans = known_spans(self.works, rests, name)
        return held_together(spans, self.beat, rest) > many_of(self.machine, name)

    def is_parting(self, rests, thing):
        """Whether a thing that says split is a knot by these rests."""
        if not is_tuple_of(thing, 3) or not self.is_deed_number(thing[1]) or not is_tuple_of(thing[2], self.beat):
            return False
        word, k, knots = thing
        if rests[k] is not None:
            return False
        return all(self.is_beat_knot(with_rest(rests, k, rest), knot) for rest, knot in enumerate(knots))

    def is_beat_knot(self, rests, thing):
        """Whether a thing, of anything, is a knot by these rests."""
        if not isinstance(thing, tuple) or not thing:
            return False
        word = thing[0]
        if word == "ring":
            return self.is_ring(rests, thing)
        if word == "full":
            return self.is_full(thing)
        if word == "crowd":
            return self.is_crowd_at(rests, thing)
        return word == "split" and self.is_parting(rests, thing)

    def is_beat_tree(self, thing):
        """Whether a thing, of anything, is a tree."""
        rests = (None,) * len(self.works)
        if not is_tuple_of(thing, 3) or thing[0] != "first":
            return self.is_beat_knot(rests, thing)
        return self.is_deed_number(thing[1]) and self.is_beat_knot(with_rest(rests, thing[1], 0), thing[2])


def beat_tree_holds(machine, loop, beat, tree, papers=None):
    """Whether a thing, of anything, is a tree that no rows of a loop hold by a beat."""
    givens, deeds, carried = loop
    if papers is not None and not papers_hold((givens, deeds, ()), papers):
        return False
    works = [work_of(machine, deed) for deed in deeds]
    return Checker(machine, works, loop_waits(machine, loop, papers), beat).is_beat_tree(tree)
