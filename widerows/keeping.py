"""Worths kept on the shelf where boxes are few (17)."""

from widerows.boxes import least_boxes
from widerows.deeds import named_by, renamed
from widerows.errors import NoBoxes
from widerows.greedy import is_free, laid, waited_for
from widerows.machines import work_of
from widerows.waits import waits_of


def needs_of(stretch):
    """For each worth the deeds that name it, rising; for outs the number behind all deeds, too."""
    givens, deeds, outs = stretch
    needs = [[] for worth in range(givens + len(deeds))]
    for k, deed in enumerate(deeds):
        for worth in named_by(deed):
            needs[worth].append(k)
    for worth in outs:
        needs[worth].append(len(deeds))
    return needs


class Packer:
    """Puts the deeds of a stretch down again, one by one, with keeps and fetches so that a number of boxes does.

    A worth keeps its first number as its spot on the shelf. In held stands for each worth that lies in a box its
    number in the told stretch.
    """

    def __init__(self, stretch, number):
        self.givens, self.deeds, self.outs = stretch
        self.needs = needs_of(stretch)
        self.told = []
        self.boxes = []
        self.held = {}
        self.free = list(range(number))
        self.shelved = {}

    def need_behind(self, worth, k):
        """The first deed behind k that names the worth, the number behind all deeds for the outs, or None."""
        return min([need for need in self.needs[worth] if need > k], default=None)

    def box_for(self, worth):
        """Gives the worth whose number comes next a box, the least that is free."""
        self.held[worth] = len(self.boxes)
        self.boxes.append(self.free.pop(0))

    def release(self, worth):
        """Takes a worth out of its box."""
        self.free = sorted(self.free + [self.boxes[self.held.pop(worth)]])

    def put_down(self, deed):
        """Puts down a deed whose worth, if it has one, needs no box."""
        self.told.append(deed)
        self.boxes.append(None)

    def make_room(self, k, staying):
        """Sees that a box is free: of the worths that needn't stay the one that is needed last goes to the shelf."""
        if self.free:
            return
        last, worth = max([(self.need_behind(worth, k), worth) for worth in self.held if worth not in staying])
        if worth not in self.shelved:
            self.shelved[worth] = True
            self.put_down(("keep", self.held[worth], worth))
        self.release(worth)

    def bring(self, k, worths):
        """Sees that each of these worths lies in a box when deed k is begun."""
        for worth in worths:
            if worth not in self.held:
                self.make_room(k, worths)
                self.told.append(("fetch", worth))
                self.box_for(worth)

    def pack_givens(self):
        """Puts the givens that somebody needs in boxes."""
        for worth in range(self.givens):
            if self.needs[worth]:
                self.box_for(worth)
            else:
                self.boxes.append(None)

    def pack_deed(self, k):
        """Puts down deed k, with what must be kept and fetched ahead of it."""
        named = named_by(self.deeds[k])
        self.bring(k, named)
        deed = renamed(self.deeds[k], self.held)
        for worth in sorted(set(named)):
            if self.need_behind(worth, k) is None:
                self.release(worth)
        worth = self.givens + k
        if self.needs[worth]:
            self.make_room(k, ())
            self.told.append(deed)
            self.box_for(worth)
        else:
            self.put_down(deed)

    def packed(self):
        """(stretch, boxes): what is told for the whole stretch."""
        self.pack_givens()
        for k in range(len(self.deeds)):
            self.pack_deed(k)
        self.bring(len(self.deeds), self.outs)
        outs = tuple([self.held[worth] for worth in self.outs])
        return (self.givens, tuple(self.told), outs), tuple(self.boxes)


def rows_in_order(machine, stretch):
    """Rows in which no deed is begun ahead of an earlier one, each as early as may be.

    So a box may be given to a worth as soon as its former one is named for the last time: as deeds are begun in
    order, the worth comes behind that row.
    """
    works = [work_of(machine, deed) for deed in stretch[1]]
    ahead = waited_for(waits_of(machine, stretch), len(works))
    rows = []
    row = 0
    for k, work in enumerate(works):
        row = max([row] + [rows[i] + wait for i, wait in ahead[k]])
        while not is_free(machine, works, rows, row, work[0]):
            row += 1
        rows.append(row)
    return tuple(rows)


def kept(machine, stretch, number):
    """(stretch, rows, boxes), boxes below the number, with keeps and fetches where need be; or NoBoxes."""
    givens, deeds, outs = stretch
    if number < 4 or number < givens or number < len(set(outs)):
        raise NoBoxes(f"{number} boxes are too few")
    rows = laid(machine, stretch)
    least, boxes, row = least_boxes(machine, stretch, rows)
    if least <= number:
        return (stretch, rows, boxes)
    told, boxes = Packer(stretch, number).packed()
    return (told, rows_in_order(machine, told), boxes)
