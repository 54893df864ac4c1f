"""Trees that no rows of a loop hold by a beat (23)."""

import copy
import itertools
import random
import unittest

from tests.samples import MIXED, ODD, WIDE, machine_with, some_loop, some_machine, swapped
from tests.slow import pairs_of
from tests.slowbeats import beat_knot_slowly, beat_tree_slowly, has_beat_rows, loop_waits_slowly
from widerows.beattrees import beat_tree_holds
from widerows.errors import TooMany
from widerows.leastbeat import least_beat
from widerows.unlike import all_papers

FAR = 10 ** 39
ONE = (("u", 1),)
# A deed that waits for itself, two that wait for each other, and some that don't.
ACCUMULATED = (1, (("plus", 0, 0),), (1,))
TURNED = (1, (("plus", 0, 0), ("minus", 1, 1)), (2,))
FREE = (1, (("plus", 0, 0), ("plus", 0, 0), ("plus", 0, 0)), (0,))


class Knots(unittest.TestCase):
    def told(self, machine, loop, beat, tree, truth, papers=None):
        self.assertIs(beat_tree_holds(machine, loop, beat, tree, papers), truth, (beat, tree))
        self.assertIs(beat_tree_slowly(machine, loop, beat, tree, pairs_of(papers or ())), truth, (beat, tree))

    def test_a_ring_of_one_deed(self):
        for comes in range(1, 7):
            machine = machine_with(comes=comes)
            for beat in range(1, 9):
                self.told(machine, ACCUMULATED, beat, ("ring", (0,)), comes > beat)
                self.told(machine, ACCUMULATED, beat, ("ring", (0, 0, 0)), comes > beat)
                # Its own rest being known, whole beats are counted, which are above 0 just where the rows are.
                self.told(machine, ACCUMULATED, beat, ("first", 0, ("ring", (0,))), comes > beat)
        self.told(WIDE, FREE, 1, ("ring", (0,)), False)
        self.told(WIDE, (2, (("write", 0, 0, 1),), (0, 1)), 1, ("ring", (0,)), False)

    def test_a_ring_of_more_deeds(self):
        machine = machine_with(plus=("u", 1, 3), minus=("u", 1, 4))
        for beat in range(1, 10):
            self.told(machine, TURNED, beat, ("ring", (0, 1)), beat < 7)
            self.told(machine, TURNED, beat, ("ring", (1, 0)), beat < 7)
            self.told(machine, TURNED, beat, ("ring", (0, 1, 0, 1)), beat < 7)
        # No deed waits for itself there, and the third is in no ring.
        self.told(machine, TURNED, 1, ("ring", (0,)), False)
        self.told(machine, TURNED, 1, ("ring", (0, 0, 1)), False)
        loop = (1, TURNED[1] + (("less", 1, 2),), (2,))
        self.told(machine, loop, 1, ("ring", (0, 1, 2)), False)
        self.told(machine, loop, 1, ("ring", (0, 1)), True)

    def test_each_waits_for_the_one_ahead(self):
        # Deed 1 waits for 0, 2 for 1, 0 for 2 a round ago; the other way about nobody waits.
        loop = (1, (("plus", 0, 0), ("plus", 1, 1), ("plus", 2, 2)), (3,))
        for ring in itertools.permutations(range(3)):
            self.told(WIDE, loop, 2, ("ring", ring), ring in ((0, 1, 2), (1, 2, 0), (2, 0, 1)))
        self.told(WIDE, loop, 3, ("ring", (0, 1, 2)), False)

    def test_waits_of_several_counts(self):
        # Deed 1 names deed 0's worth of its own round and of the one ahead; the former counts more.
        machine = machine_with(plus=("u", 1, 5), minus=("u", 1, 2))
        loop = (2, (("plus", 0, 0), ("minus", 1, 2)), (3, 2))
        for beat in range(1, 10):
            self.told(machine, loop, beat, ("ring", (0, 1)), beat < 7)
        # By two rounds a ring of one deed is as much as half the rows.
        loop = (2, (("plus", 1, 1),), (2, 0))
        for beat in range(1, 7):
            self.told(machine, loop, beat, ("ring", (0,)), 2 * beat < 5)
        # By one round and by two: of both the one that counts most.
        loop = (2, (("plus", 0, 1),), (2, 0))
        for beat in range(1, 7):
            self.told(machine, loop, beat, ("ring", (0,)), beat < 5)

    def test_a_ring_by_known_rests(self):
        # Deed 0 at the rest 0, deed 1 at each rest: from 0 to 1 at least 3 rows, back at least 4 less the beat.
        machine = machine_with(plus=("u", 1, 3), minus=("u", 1, 4))
        for beat in range(1, 12):
            barred = []
            for rest in range(beat):
                forth = next(count for count in itertools.count(3) if (count - rest) % beat == 0)
                back = next(count for count in itertools.count(4 - beat) if (count + rest) % beat == 0)
                barred.append(forth + back > 0)
                for ring in ((0, 1), (1, 0), (0, 1, 0, 1)):
                    self.assertIs(beat_knot_alone(machine, TURNED, beat, (rest,), ("ring", ring)), barred[-1])
            self.told(machine, TURNED, beat, ("first", 0, ("split", 1, (("ring", (0, 1)),) * beat)), all(barred))
            # Without known rests it shows where the sum alone does; by a beat of 8 two rests are left of eight.
            self.told(machine, TURNED, beat, ("ring", (0, 1)), beat < 7)
            self.assertEqual(barred.count(False), max(0, beat - 6))

    def test_rings_and_crowds_together(self):
        # Held for four rows each in a beat of eight, deed 1 may lie at the rest 4 alone; it waits three rows, and so
        # deed 0 of the next round would have to wait four.
        machine = machine_with(ONE, plus=("u", 4, 3), minus=("u", 4, 5))
        ring, crowd = ("ring", (0, 1)), ("crowd", "u", 3)
        tree = ("first", 0, ("split", 1, (ring, ring, ring, crowd, ring, ring, ring, ring)))
        self.told(machine, TURNED, 8, tree, True)
        self.assertIs(has_beat_rows(machine, TURNED, 8), False)
        for at in range(8):
            for worse in (crowd, ring):
                knots = tree[2][2][:at] + (worse,) + tree[2][2][at + 1:]
                truth = worse == tree[2][2][at] or worse == crowd and at in (0, 1, 2)
                self.told(machine, TURNED, 8, ("first", 0, ("split", 1, knots)), truth)
        # The other deed first, and without any first.
        self.told(machine, TURNED, 8, ("first", 1, tree[2]), False)
        self.told(machine, TURNED, 8, tree[2], False)
        turned = tuple(tree[2][2][-rest] for rest in range(8))
        self.told(machine, TURNED, 8, ("first", 1, ("split", 0, turned)), False)
        turned = tuple(("crowd", "u", 0) if knot == crowd else knot for knot in turned)
        self.told(machine, TURNED, 8, ("first", 1, ("split", 0, turned)), True)

    def test_only_one_rest_known(self):
        machine = machine_with(plus=("u", 1, 3), minus=("u", 1, 4))
        for beat in range(1, 12):
            for k in (0, 1):
                self.told(machine, TURNED, beat, ("first", k, ("ring", (0, 1))), beat < 7)
                self.told(machine, TURNED, beat, ("split", k, (("ring", (0, 1)),) * beat), beat < 7)

    def test_full(self):
        for many in range(1, 7):
            for holds in range(1, 7):
                machine = machine_with((("u", many), ("v", 1)), holds=holds)
                for beat in range(1, 20):
                    self.told(machine, FREE, beat, ("full", "u"), 3 * holds > beat * many)
                    self.told(machine, FREE, beat, ("full", "v"), False)
                    self.told(machine, FREE, beat, ("first", 2, ("full", "u")), 3 * holds > beat * many)
        machine = machine_with((("u", 1), ("v", 1)), plus=("v", 3, 1))
        loop = (1, FREE[1] + (("minus", 0, 0),), (0,))
        self.assertEqual([beat_tree_holds(machine, loop, beat, ("full", "v")) for beat in (8, 9)], [True, False])
        self.told(machine, loop, 1, ("full", "u"), False)

    def test_a_crowd(self):
        machine = machine_with((("u", 2),), holds=2)
        # Three deeds, two units, a beat of four: at the rest 0 are three held where all lie at the rests 0 and 3.
        for rests in itertools.product(range(4), repeat=2):
            crowds = [sum(at in (told, (told + 1) % 4) for told in (0,) + rests) > 2 for at in range(4)]
            for at in range(4):
                tree = around(4, rests, ("crowd", "u", at))
                self.assertIs(beat_tree_holds(machine, FREE, 4, tree), False)
                truth = beat_knot_alone(machine, FREE, 4, rests, ("crowd", "u", at))
                self.assertIs(truth, crowds[at])
        # Rests that aren't known aren't counted.
        self.told(machine, FREE, 1, ("crowd", "u", 0), False)
        self.told(machine, FREE, 1, ("first", 0, ("crowd", "u", 0)), False)
        self.told(machine, FREE, 1, ("first", 0, ("split", 1, (("crowd", "u", 0),))), True)

    def test_a_crowd_of_holds_longer_than_the_beat(self):
        for holds in range(1, 7):
            for many in range(1, 7):
                machine = machine_with((("u", many),), holds=holds)
                for beat in range(1, 8):
                    for rest in range(beat):
                        held = len([at for at in range(holds) if at % beat == rest])
                        self.told(machine, ACCUMULATED, beat, ("first", 0, ("crowd", "u", rest)), held > many)
        machine = machine_with((("u", 4), ("v", 6)), plus=("u", 5, 1))
        # At the rest 0 five rows by a beat of 2 are held three times, at the rest 1 twice.
        for at in (0, 1):
            truth = [beat_knot_alone(machine, (1, FREE[1][:2], (0,)), 2, (rest,), ("crowd", "u", at)) for rest in (0, 1)]
            self.assertEqual(truth, [[True, True], [False, True]][at])

    def test_the_rest_of_a_crowd(self):
        machine = machine_with(ONE, holds=2)
        for rest in (0, 1, 2, 3):
            tree = ("first", 0, ("split", 1, (("crowd", "u", rest), ("crowd", "u", rest), ("crowd", "u", rest))))
            self.told(machine, FREE, 3, tree, False)
        tree = ("first", 0, ("split", 1, (("crowd", "u", 0), ("crowd", "u", 1), ("crowd", "u", 0))))
        self.told(machine, FREE, 3, tree, True)
        for at, bad in ((0, 3), (0, -1), (0, True), (0, None), (0, "0"), (0, FAR), (0, (0,)), (1, -2), (1, 4), (1, True), (2, -3)):
            knots = list(tree[2][2])
            knots[at] = ("crowd", "u", bad)
            self.told(machine, FREE, 3, ("first", 0, ("split", 1, tuple(knots))), False)

        machine = machine_with(ONE, holds=3)
        for rest, truth in ((0, True), (2, True), (-1, False), (3, False)):
            self.told(machine, FREE, 3, ("first", 0, ("split", 1, (("crowd", "u", rest),) * 3)), truth)

    def test_names(self):
        machine = machine_with(ONE, holds=6)
        self.told(machine, FREE, 2, ("full", "u"), True)
        for name in ("v", "", "U", "u ", None, 0, True, ("u",), ["u"], {"u": 1}):
            self.told(machine, FREE, 2, ("full", name), False)
            self.told(machine, FREE, 2, ("first", 0, ("crowd", name, 0)), False)
        self.told(machine, FREE, 2, ("first", 0, ("crowd", "u", 0)), True)

    def test_split_has_a_knot_for_each_rest(self):
        machine = machine_with(ONE, holds=6)
        full = ("full", "u")
        for beat in range(1, 6):
            for many in range(8):
                self.told(machine, FREE, beat, ("split", 0, (full,) * many), many == beat)
            self.told(machine, FREE, beat, ("split", 0, [full] * beat), False)
            self.told(machine, FREE, beat, ("split", 0, full), False)
            for at in range(beat):
                knots = tuple(("waits",) if k == at else full for k in range(beat))
                self.told(machine, FREE, beat, ("split", 0, knots), False)

    def test_a_rest_that_is_known_already(self):
        machine = machine_with(ONE, holds=6)
        full = ("full", "u")
        self.told(machine, FREE, 2, ("split", 1, (full, full)), True)
        self.told(machine, FREE, 2, ("split", 1, (full, ("split", 1, (full, full)))), False)
        self.told(machine, FREE, 2, ("split", 1, (full, ("split", 2, (full, full)))), True)
        self.told(machine, FREE, 2, ("split", 1, (full, ("split", 2, (full, ("split", 1, (full, full)))))), False)
        self.told(machine, FREE, 2, ("first", 1, ("split", 1, (full, full))), False)
        self.told(machine, FREE, 2, ("first", 1, ("split", 0, (full, full))), True)
        # In one branch it is known, in the other it isn't.
        self.told(machine, FREE, 2, ("split", 1, (("split", 0, (full, full)), ("split", 0, (full, full)))), True)

    def test_first_at_the_root_alone(self):
        machine = machine_with(ONE, holds=6)
        full = ("full", "u")
        for k in (0, 1, 2):
            self.told(machine, FREE, 2, ("first", k, full), True)
        for k in (-1, 3, FAR, True, False, None, "0", (0,), [0]):
            self.told(machine, FREE, 2, ("first", k, full), False)
            self.told(machine, FREE, 2, ("split", k, (full, full)), False)
        self.told(machine, FREE, 2, ("first", 0, ("first", 1, full)), False)
        self.told(machine, FREE, 2, ("first", 0, ("first", 0, full)), False)
        self.told(machine, FREE, 2, ("split", 0, (full, ("first", 1, full))), False)
        self.told(machine, FREE, 2, ("first", 0), False)
        self.told(machine, FREE, 2, ("first", 0, full, full), False)

    def test_a_loop_without_deeds(self):
        for tree in (("ring", ()), ("ring", (0,)), ("full", "u"), ("crowd", "u", 0), ("first", 0, ("full", "u")),
                     ("split", 0, (("full", "u"),))):
            self.told(WIDE, (0, (), ()), 1, tree, False)

    def test_papers(self):
        # In a round the read passes the write by a paper; so the ring of one unit and both is no longer one.
        machine = machine_with(read=("u", 1, 3))
        loop = (2, (("write", 0, 0, 1), ("read", 0, 1)), (0, 3))
        papers = all_papers((2, loop[1], ()))
        self.assertEqual(len(papers), 1)
        ring = ("ring", (0, 1))
        for beat in range(1, 5):
            self.told(machine, loop, beat, ring, beat < 3)
            self.told(machine, loop, beat, ring, beat < 3, ())
            self.told(machine, loop, beat, ring, beat * 2 < 3, papers)
        for bad in ([], 0, "", list(papers), papers + papers, ((0, 1, None),)):
            self.assertIs(beat_tree_holds(machine, loop, 1, ring, bad), False)


def around(beat, rests, knot):
    """A tree with the knot where deed 0 has the rest 0, and the others these; elsewhere full."""
    tree = knot
    for k in range(len(rests), 0, -1):
        tree = ("split", k, tuple(tree if rest == rests[k - 1] else ("full", "u") for rest in range(beat)))
    return ("first", 0, tree)


def beat_knot_alone(machine, loop, beat, rests, knot):
    """Whether a knot is one by these rests, behind a rest 0 of deed 0: where all others are let by."""
    many = len(loop[1])
    # Further deeds of a unit that is full, whatever lies there, let all other knots by.
    units, works = machine
    filled = (units + (("full", 1),), tuple(("full", 6, 1) if kind == 6 else work for kind, work in enumerate(works)))
    longer = (loop[0], loop[1] + (("share", 0, 0),) * 9, loop[2])
    tree = knot
    for k in range(many - 1, 0, -1):
        tree = ("split", k, tuple(tree if rest == rests[k - 1] else ("full", "full") for rest in range(beat)))
    return beat_tree_holds(filled, longer, beat, ("first", 0, tree))


class Anything(unittest.TestCase):
    TREE = ("first", 0, ("split", 1, (("crowd", "u", 0), ("crowd", "u", 1), ("ring", (0, 1)))))
    MACHINE = machine_with((("u", 1), ("v", 1)), holds=2, comes=2, plus=("u", 2, 2))

    def test_things(self):
        before = copy.deepcopy(ODD)
        loop = (1, (("plus", 0, 0), ("plus", 1, 1)), (2,))
        self.assertIs(beat_tree_holds(self.MACHINE, loop, 3, self.TREE), True)
        for thing in ODD:
            for beat in (1, 3, 80):
                for tree in (thing, (thing,), (thing, thing), ("ring", thing), ("ring", (thing,)), ("ring", (0, thing)), ("full", thing),
                             ("full", "u", thing), ("crowd", thing, 0), ("crowd", "u", thing), ("crowd", "u", 0, thing),
                             ("split", thing, (("full", "u"),)), ("split", 0, thing), ("split", 0, (thing,) * beat),
                             ("split", 0, (("full", "u"),) * beat, thing), ("first", thing, ("full", "u")), ("first", 0, thing),
                             (thing, 0, ("full", "u"))):
                    truth = beat_tree_holds(self.MACHINE, loop, beat, tree)
                    self.assertIs(truth, beat_tree_slowly(self.MACHINE, loop, beat, tree))
        self.assertEqual(ODD, before)

    def test_lists(self):
        loop = (1, (("plus", 0, 0), ("plus", 1, 1)), (2,))
        for tree in (list(self.TREE), ["full", "u"], ("ring", [0, 1]), ("first", 0, list(self.TREE[2])),
                     ("first", 0, ("split", 1, list(self.TREE[2][2])))):
            self.assertIs(beat_tree_holds(self.MACHINE, loop, 3, tree), False)

    def test_swapped_parts(self):
        rng = random.Random(230)
        told = {True: 0, False: 0}
        loop = (1, (("plus", 0, 0), ("plus", 1, 1)), (2,))
        for _ in range(6000):
            tree = swapped(self.TREE, rng, ODD[:36])
            truth = beat_tree_holds(self.MACHINE, loop, 3, tree)
            self.assertIs(truth, beat_tree_slowly(self.MACHINE, loop, 3, tree), tree)
            told[truth] += 1
        self.assertGreater(min(told.values()), 20)

    def test_a_long_ring(self):
        loop = (1, (("plus", 0, 0), ("plus", 1, 1)), (2,))
        self.assertIs(beat_tree_holds(self.MACHINE, loop, 3, ("ring", (0, 1) * 9990)), True)
        self.assertIs(beat_tree_holds(self.MACHINE, loop, 4, ("ring", (0, 1) * 9990)), False)


def some_tree(rng, machine, loop, beat, deep, known=()):
    """A tree by chance, made so that it is often let by."""
    many = len(loop[1])
    names = [name for name, _ in machine[0]]
    left = [k for k in range(many) if k not in known]
    choice = rng.random()
    if deep and left and choice < 0.75:
        k = rng.choice(left)
        return ("split", k, tuple(some_tree(rng, machine, loop, beat, deep - 1, known + (k,)) for _ in range(beat)))
    if choice < 0.8:
        return ("full", rng.choice(names))
    if choice < 0.9 or not many:
        return ("crowd", rng.choice(names), rng.randrange(beat))
    return ("ring", tuple(rng.sample(range(many), rng.randint(1, many))))


def mended(machine, loop, beat, tree, rests, knots, waits):
    """The tree with each knot that isn't one given up for one that is, where there is one."""
    if tree[0] == "split":
        return (tree[0], tree[1], tuple(
            mended(machine, loop, beat, knot, {**rests, tree[1]: rest}, knots, waits) for rest, knot in enumerate(tree[2])))
    good = (knot for knot in knots if beat_knot_slowly(machine, loop, waits, beat, rests, knot))
    return next(good, tree)


class Sound(unittest.TestCase):
    """Where a tree is let by, no rows hold by the beat."""

    def test_trees_by_chance(self):
        rng = random.Random(231)
        told = {True: 0, False: 0}
        split = 0
        for _ in range(1500):
            machine, loop = some_machine(rng), some_loop(rng, 3)
            beat = rng.randint(1, 4)
            many = len(loop[1])
            all_knots = [("full", name) for name, _ in machine[0]]
            all_knots += [("crowd", name, rest) for name, _ in machine[0] for rest in range(beat)]
            all_knots += [("ring", ring) for long in range(1, many + 1) for ring in itertools.permutations(range(many), long)]
            waits = loop_waits_slowly(machine, loop)
            if many and rng.random() < 0.5:
                tree = some_tree(rng, machine, loop, beat, 2, (0,))
                tree = ("first", 0, mended(machine, loop, beat, tree, {0: 0}, all_knots, waits))
            else:
                tree = some_tree(rng, machine, loop, beat, rng.randint(0, 2))
                tree = mended(machine, loop, beat, tree, {}, all_knots, waits)
            truth = beat_tree_holds(machine, loop, beat, tree)
            self.assertIs(truth, beat_tree_slowly(machine, loop, beat, tree))
            told[truth] += 1
            if truth:
                split += tree[0] in ("split", "first")
                self.assertIs(has_beat_rows(machine, loop, beat), False)
        self.assertGreater(min(told.values()), 200)
        self.assertGreater(split, 50)

    def test_trees_of_others(self):
        rng = random.Random(232)
        told = {True: 0, False: 0}
        found = []
        while len(found) < 30:
            machine, loop = some_machine(rng), some_loop(rng, 5)
            try:
                trees = least_beat(machine, loop)[2]
            except TooMany:
                continue
            found.append((machine, loop, trees))
        for machine, loop, _ in found:
            for _, _, trees in found:
                for beat, tree in enumerate(trees, 1):
                    truth = beat_tree_holds(machine, loop, beat, tree)
                    self.assertIs(truth, beat_tree_slowly(machine, loop, beat, tree))
                    self.assertIs(beat_tree_holds(machine, loop, beat, tree), truth)
                    told[truth] += 1
        self.assertGreater(min(told.values()), 100)

    def test_mixed_works(self):
        loop = (2, (("read", 0, 0), ("times", 2, 1), ("write", 0, 0, 3), ("plus", 0, 1)), (5, 1))
        beat, rows, trees = least_beat(MIXED, loop)
        for lesser, tree in enumerate(trees, 1):
            self.assertIs(beat_tree_holds(MIXED, loop, lesser, tree), True)
            self.assertIs(beat_tree_holds(MIXED, loop, beat, tree), False)


if __name__ == "__main__":
    unittest.main()
