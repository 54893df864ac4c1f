"""The fewest rows, and a tree that no fewer do (14)."""

from widerows.errors import TooMany
from widerows.greedy import laid, lay
from widerows.machines import work_of
from widerows.rows import length_of
from widerows.trees import is_knot, whole_windows
from widerows.waits import waits_of
from widerows.windows import narrowed, part_ahead, part_from

# A look at a knot takes about as long as there are pairs of deeds: of 24 deeds 3,000 are looked at, which is far above
# the hundred that must be and still a matter of a second or two. Of many more deeds it is never below LEAST_KNOTS.
MOST_PAIRS = 1728000
LEAST_KNOTS = 200
# A deeper tree has more than a hundred knots, as one has two below each split; this deep, calls can still go down it.
DEEPEST = 60


def crowd_behind(parts, many, start):
    """The row ahead of which, from start on, parts (first, last, holds) crowd so many units, or None.

    The rows that a part surely holds grow by one with each row from its last (or from start, if later), till all
    are counted that lie behind start when it is begun in its first. So only where one stops growing, or one begins
    to, need it be asked whether they are too many.
    """
    turns = []
    for first, last, holds in parts:
        sure = min(holds, first + holds - start)
        if sure > 0:
            grows = max(last, start)
            turns.append((grows, 1))
            turns.append((grows + sure, -1))
    beyond, growing, at = 0, 0, start
    for row, turn in sorted(turns):
        beyond += (growing - many) * (row - at)
        if beyond > 0:
            return row
        growing += turn
        at = row
    return None


def crowd_in(machine, works, windows):
    """A knot that says crowd by narrowed windows, or None where none is found."""
    for name, many in machine[0]:
        parts = [(first, last, work[1]) for work, (first, last) in zip(works, windows) if work[0] == name]
        starts = [first for first, last, holds in parts] + [last for first, last, holds in parts]
        for start in sorted(set(starts)):
            behind = crowd_behind(parts, many, start)
            if behind is not None:
                return ("crowd", name, start, behind)
    return None


def depth_of(tree):
    """How many knots lie on the longest way down."""
    if tree[0] != "split":
        return 1
    return 1 + max(depth_of(tree[3]), depth_of(tree[4]))


class Search:
    """A search for rows within windows, or for a tree that there are none; rows is None till some are found."""

    def __init__(self, machine, stretch, papers):
        self.machine = machine
        self.works = [work_of(machine, deed) for deed in stretch[1]]
        self.waits = waits_of(machine, stretch, papers)
        self.most = max(LEAST_KNOTS, MOST_PAIRS // len(self.works) ** 2)
        self.looked = 0
        self.rows = None

    def look(self, windows):
        """(narrowed windows, None), or (None, knot) where one knot shows that nothing can be in the windows."""
        self.looked += 1
        if self.looked > self.most:
            raise TooMany(self.looked)
        narrow = narrowed(self.waits, windows)
        if narrow is None:
            return None, ("waits",)
        knot = crowd_in(self.machine, self.works, narrow)
        if knot is None:
            self.lay_within(narrow)
            return narrow, None
        return None, knot

    def lay_within(self, windows):
        """Lays rows at once, the least last row first, and keeps them where they lie within the windows."""
        firsts = [first for first, last in windows]
        order = sorted(range(len(windows)), key=lambda k: (windows[k][1], k))
        rows = lay(self.machine, self.works, self.waits, firsts, order)
        if all(row <= window[1] for row, window in zip(rows, windows)):
            self.rows = rows

    def cut(self, windows, k):
        """(row, knot for the one side, whether it is the side ahead): one row off deed k's window, or None."""
        first, last = windows[k]
        if first == last:
            return None
        knot = self.look(part_ahead(windows, k, first + 1))[1]
        if knot is not None:
            return (first + 1, knot, True)
        knot = self.look(part_from(windows, k, last))[1]
        return None if knot is None else (last, knot, False)

    def refuse_deep(self, deep):
        """Refuses a tree that is too deep."""
        if deep > DEEPEST:
            raise TooMany(self.looked)

    def tree_for(self, windows, above):
        """A tree that nothing can be in the windows, below so many partings, or None where rows are found."""
        narrow, knot = self.look(windows)
        cuts = []
        k, calm = 0, 0
        while knot is None and self.rows is None and calm < len(windows):
            found = self.cut(narrow, k)
            if found is None:
                k, calm = (k + 1) % len(windows), calm + 1
            else:
                calm = 0
                cuts.append((narrow, k, found))
                row, side, is_ahead = found
                narrow, knot = self.look(part_from(narrow, k, row) if is_ahead else part_ahead(narrow, k, row))
        if self.rows is not None:
            return None
        tree = self.parted(narrow, above + 1) if knot is None else knot
        return None if tree is None else self.joined(cuts, tree)

    def parted(self, windows, above):
        """A tree whose root parts the least window that has several rows, or None where rows are found."""
        self.refuse_deep(above)
        sizes = [(last - first, k) for k, (first, last) in enumerate(windows) if first < last]
        size, k = min(sizes)
        row = windows[k][0] + (size + 1) // 2
        one = self.tree_for(part_ahead(windows, k, row), above)
        if one is None:
            return None
        other = self.tree_for(part_from(windows, k, row), above)
        return None if other is None else ("split", k, row, one, other)

    def joined(self, cuts, tree):
        """The tree with those cuts above it that it can't do without."""
        deep = depth_of(tree)
        for windows, k, (row, knot, is_ahead) in cuts[::-1]:
            self.refuse_deep(deep)
            if not is_knot(self.machine, self.works, self.waits, windows, tree):
                tree = ("split", k, row, knot, tree) if is_ahead else ("split", k, row, tree, knot)
                deep += 1
        self.refuse_deep(deep)
        return tree


def fewest_rows(machine, stretch, papers=None):
    """(rows, tree): rows that hold of the least length, and a tree for that length less one; or TooMany."""
    # With fewer waits the rows laid at once may come to be longer, so those of all waits are asked, too.
    tries = [laid(machine, stretch, papers), laid(machine, stretch)]
    rows = min(tries, key=lambda told: length_of(machine, stretch, told))
    if not rows:
        return (rows, None)
    search = Search(machine, stretch, papers)
    while True:
        search.rows = None
        tree = search.tree_for(whole_windows(search.works, length_of(machine, stretch, rows) - 1), 0)
        if tree is not None:
            return (rows, tree)
        rows = search.rows
