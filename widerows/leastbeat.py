"""The least beat of a loop, with a tree for each lesser one (24)."""

from widerows.beats import beat_units_do, beat_waits_kept, held_together
from widerows.beattrees import count_by, counts_of, known_spans, with_rest
from widerows.errors import TooMany
from widerows.greedy import laid
from widerows.loopwaits import loop_waits
from widerows.machines import many_of, work_of

# Far above the hundred knots that must be gone through, and of 12 deeds still a matter of a second or two. Four deeds
# have at most 157 knots for a beat of 5 and fewer for a lesser one, so they never come near it.
MOST_KNOTS = 10000
# So many knots are gone through, for a beat, in each of two orders, ahead of all: in one of them rows are often near.
FEW_KNOTS = 200
# Less than any sum of counts can come to.
NO_WAY = -1000000000


def ring_in(edges, many):
    """A ring of some of so many deeds whose edges (i, j, count) count above 0 together, or None."""
    sums = [0] * many
    ahead = [None] * many
    grown = None
    for turn in range(many + 1):
        grown = None
        for i, j, count in edges:
            if sums[i] + count > sums[j]:
                sums[j] = sums[i] + count
                ahead[j] = i
                grown = j
        if grown is None:
            return None
    # Sums that grow in more turns than there are deeds grow by a ring, and the way back from there leads into it.
    for turn in range(many):
        grown = ahead[grown]
    ring = [grown]
    while ahead[ring[-1]] != grown:
        ring.append(ahead[ring[-1]])
    return tuple(ring[::-1])


def farthest(edges, many):
    """For each two deeds the greatest count along edges from the one to the other, where no ring counts above 0."""
    far = [[NO_WAY] * many for k in range(many)]
    for i, j, count in edges:
        far[i][j] = count
    for k in range(many):
        far[k][k] = 0
    for k in range(many):
        for i in range(many):
            if far[i][k] > NO_WAY:
                far[i] = [max(count, far[i][k] + onward) for count, onward in zip(far[i], far[k])]
    return far


class BeatSearch:
    """A search for rows that hold by a beat, or for a tree that there are none; rows is None till some are found.

    A rest that isn't known is None. Only rests are gone through by which no one knot is in the way yet.
    """

    def __init__(self, machine, works, waits, beat):
        self.machine = machine
        self.works = works
        self.beat = beat
        self.counts = counts_of(waits, beat)
        self.looked = 0
        self.most = 0
        self.is_late = False
        self.rows = None

    def look(self):
        """Counts a knot that is gone through, and refuses one too many."""
        self.looked += 1
        if self.looked > self.most:
            raise TooMany(self.looked)

    def edges(self, rests):
        """(i, j, count) of all waits by these rests."""
        return [(i, j, count_by(self.counts, self.beat, rests, i, j)) for i, j in self.counts]

    def one_knot(self):
        """A full or a ring that does alone, rests not known, or None."""
        for name, many in self.machine[0]:
            if sum([holds for unit, holds, comes in self.works if unit == name]) > self.beat * many:
                return ("full", name)
        ring = ring_in(self.edges((None,) * len(self.works)), len(self.works))
        return None if ring is None else ("ring", ring)

    def earliest(self, rests):
        """The earliest rows by waits that have the known rests, or None where none are found soon."""
        rows = [0 if rest is None else rest for rest in rests]
        # Where all rests are known, and no ring is in the way, the rows come to rest in as many turns as deeds.
        for turn in range(3 * len(rows)):
            is_calm = True
            for i, j in self.counts:
                late = rows[i] + self.counts[i, j] - rows[j]
                if late > 0:
                    is_calm = False
                    rows[j] += late if rests[j] is None else late + (-late) % self.beat
            if is_calm:
                return tuple(rows)
        return None

    def crowded_at(self, rests, k, rest):
        """The rest at which units are one too few where deed k is begun at a rest, or None."""
        name, holds, comes = self.works[k]
        spans = known_spans(self.works, rests, name) + [(holds, rest)]
        many = many_of(self.machine, name)
        for behind in range(min(holds, self.beat)):
            at = (rest + behind) % self.beat
            if held_together(spans, self.beat, at) > many:
                return at
        return None

    def is_ringed(self, rests, far, k, rest):
        """Whether a ring counts above 0 where deed k has a rest, by what is farthest without it.

        Only what is counted between k and deeds of known rests is changed by it, so a ring goes through one of these.
        """
        known = [i for i, own in enumerate(rests) if own is not None]
        told = with_rest(rests, k, rest)
        ins = [(i, count_by(self.counts, self.beat, told, i, k)) for i in known if (i, k) in self.counts]
        outs = [(j, count_by(self.counts, self.beat, told, k, j)) for j in known if (k, j) in self.counts]
        if any(count + far[k][i] > 0 for i, count in ins) or any(count + far[j][k] > 0 for j, count in outs):
            return True
        return any(one + other + far[j][i] > 0 for i, one in ins for j, other in outs)

    def open_rests(self, rests, far, k):
        """The rests of deed k at which no one knot is in the way."""
        free = [rest for rest in range(self.beat) if self.crowded_at(rests, k, rest) is None]
        return [rest for rest in free if not self.is_ringed(rests, far, k, rest)]

    def fullness(self, k):
        """How full the unit of deed k is, in thousandths, and for how many rows k holds it."""
        name, holds, comes = self.works[k]
        held = sum([work[1] for work in self.works if work[0] == name])
        return (1000 * held // (self.beat * many_of(self.machine, name)), holds)

    def parting(self, rests):
        """(k, open rests) of the deed with the fewest, of those whose rest isn't known."""
        far = farthest(self.edges(rests), len(rests))
        choices = []
        for k, told in enumerate(rests):
            if told is None:
                full, holds = self.fullness(k)
                opens = self.open_rests(rests, far, k)
                choices.append((len(opens), -full, -holds, k, opens))
        return min(choices)[3:]

    def ends_met(self, rests, k, rest):
        """At how many of its ends deed k, begun at a rest, would lie close to others of its unit: 0, 1 or 2."""
        name, holds, comes = self.works[k]
        spans = known_spans(self.works, rests, name)
        ends = (rest - 1, rest, rest + holds - 1, rest + holds)
        before, first, last, behind = [held_together(spans, self.beat, at) for at in ends]
        return (1 if before > first else 0) + (1 if behind > last else 0)

    def in_order(self, rests, k, opens, start):
        """Open rests of deed k, those first that leave no gap, then those near behind, or ahead of, a row."""
        turned = -1 if self.is_late else 1
        return sorted(opens, key=lambda rest: (-self.ends_met(rests, k, rest), turned * (rest - start) % self.beat))

    def leaf(self, rests, k, rest):
        """The one knot that is in the way where deed k has a rest that isn't open."""
        self.look()
        at = self.crowded_at(rests, k, rest)
        if at is not None:
            return ("crowd", self.works[k][0], at)
        return ("ring", ring_in(self.edges(with_rest(rests, k, rest)), len(rests)))

    def tree_below(self, rests):
        """A knot for rests by which no one knot is in the way, or None where rows are found."""
        self.look()
        early = self.earliest(rests)
        if early is not None and beat_units_do(self.machine, self.works, self.beat, early):
            self.rows = early
            return None
        k, opens = self.parting(rests)
        knots = {}
        for rest in self.in_order(rests, k, opens, 0 if early is None else early[k]):
            knots[rest] = self.tree_below(with_rest(rests, k, rest))
            if knots[rest] is None:
                return None
        for rest in range(self.beat):
            if rest not in knots:
                knots[rest] = self.leaf(rests, k, rest)
        return ("split", k, tuple([knots[rest] for rest in range(self.beat)]))

    def tree_within(self, most, is_late):
        """A tree, or None where rows are found; or TooMany beyond so many knots in all."""
        self.most = most
        self.is_late = is_late
        k = sorted(range(len(self.works)), key=self.fullness, reverse=True)[0]
        knot = self.tree_below(with_rest((None,) * len(self.works), k, 0))
        return None if knot is None else ("first", k, knot)

    def tree_told(self, looked):
        """A tree, or None where rows are found, so many knots having been gone through; or TooMany."""
        self.looked = looked
        for is_late in (False, True):
            try:
                return self.tree_within(min(MOST_KNOTS, self.looked + FEW_KNOTS), is_late)
            except TooMany:
                continue
        return self.tree_within(MOST_KNOTS, False)


def rows_at_hand(machine, loop, papers):
    """Rows laid at once, without papers and with them."""
    stretch = (loop[0], loop[1], ())
    return (laid(machine, stretch), laid(machine, stretch, papers))


def least_beat(machine, loop, papers=None):
    """(beat, rows, trees): rows that hold by the least beat, and a tree for each lesser one; or TooMany."""
    works = [work_of(machine, deed) for deed in loop[1]]
    waits = loop_waits(machine, loop, papers)
    at_hand = rows_at_hand(machine, loop, papers)
    trees = []
    looked = 0
    while True:
        beat = len(trees) + 1
        search = BeatSearch(machine, works, waits, beat)
        tree = search.one_knot()
        if tree is None:
            for rows in at_hand:
                if beat_waits_kept(waits, beat, rows) and beat_units_do(machine, works, beat, rows):
                    return (beat, rows, tuple(trees))
            tree = search.tree_told(looked)
            looked = search.looked
        if tree is None:
            return (beat, search.rows, tuple(trees))
        trees.append(tree)
