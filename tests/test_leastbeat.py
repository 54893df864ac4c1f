"""The least beat, told with rows and with a tree for each lesser one (24)."""

import random
import time
import unittest

from tests.samples import MIXED, ROUNDING, WIDE, WORDS, machine_with, some_loop, some_machine
from tests.slow import laid_slowly, pairs_of, works_of
from tests.slowbeats import (
    beat_holds_slowly, beat_knots_in, beat_tree_slowly, has_beat_rows, least_beat_slowly, loop_waits_slowly,
)
from widerows.beats import beat_holds
from widerows.beattrees import beat_tree_holds
from widerows.errors import TooMany
from widerows.leastbeat import farthest, least_beat, ring_in
from widerows.unlike import all_papers

ONE = (("u", 1),)
RECKONING = ("plus", "minus", "times", "less", "pick", "read")


# Twenty times as many knots as are gone through don't decide this one.
HARD = (
    machine_with(
        (("a", 1), ("b", 1)), unit="b", plus=("b", 4, 2), minus=("b", 6, 5), times=("a", 2, 2), less=("b", 6, 5),
        pick=("a", 6, 3), read=("b", 1, 3)),
    (3, (
        ("plus", 0, 1), ("minus", 3, 0), ("times", 4, 4), ("pick", 5, 5, 5), ("minus", 1, 5), ("minus", 7, 0),
        ("minus", 0, 7), ("less", 1, 1), ("pick", 8, 9, 3), ("times", 6, 10), ("read", 11, -2), ("minus", 8, 10)), (13, 1, 9)),
)


def tight_machine(rng, most=3):
    """A machine with few units that are held for some time."""
    names = ["a", "bb", "c"][:rng.randint(1, 3)]
    units = tuple((name, rng.choice((1, 1, 2, 3))) for name in names)
    return (units, tuple((rng.choice(names), rng.randint(1, most), rng.randint(1, most)) for _ in WORDS))


def ringed_loop(rng, most):
    """A loop in which each deed names what is carried on or the worth ahead, so that all are in rings."""
    many = rng.randint(2, most)
    deeds = tuple((rng.choice(("plus", "minus", "times", "less")), k, rng.choice((0, k))) for k in range(many))
    return (1, deeds, (rng.choice((many, many, many - 1)),))


def late_writes(rng):
    """A loop whose writes wait for what is reckoned a round ago of what is read, often elsewhere, behind them."""
    deeds = []
    for _ in range(rng.randint(1, 2)):
        at = 2 + len(deeds)
        deeds += [("write", 0, rng.randint(0, 2), 1), ("read", 0, rng.randint(0, 2)), ("times", at + 1, 0)]
    return (2, tuple(deeds), (0, 1 + len(deeds)))


def full_loop(rng, many, words):
    loop = some_loop(rng, many, words, givens=rng.randint(1, 6))
    while len(loop[1]) < many:
        loop = some_loop(rng, many, words, givens=rng.randint(1, 6))
    return loop


def one_knot_does(machine, loop, beat, pairs=()):
    """Whether a full or a ring alone, rests not known, is a tree: rings found by ever longer ways."""
    works = works_of(machine, loop)
    for name, many in machine[0]:
        if sum(holds for unit, holds, _ in works if unit == name) > beat * many:
            return True
    ways = {}
    for i, j, rows, rounds in loop_waits_slowly(machine, loop, pairs):
        ways[i, j] = max(rows - beat * rounds, ways.get((i, j), rows - beat * rounds))
    edges = dict(ways)
    for _ in works:
        if any(i == j and count > 0 for (i, j), count in ways.items()):
            return True
        longer = dict(ways)
        for (i, j), count in ways.items():
            for (one, other), more in edges.items():
                if one == j:
                    longer[i, other] = max(count + more, longer.get((i, other), count + more))
        ways = longer
    return any(i == j and count > 0 for (i, j), count in ways.items())


class LeastBeat(unittest.TestCase):
    def least(self, machine, loop, papers=None):
        """The told beat, rows and trees being as promised."""
        told = least_beat(machine, loop, papers)
        self.assertIsInstance(told, tuple)
        beat, rows, trees = told
        self.assertIsInstance(trees, tuple)
        self.assertIs(beat_holds(machine, loop, beat, rows, papers), True)
        self.assertIs(beat_holds_slowly(machine, loop, beat, rows, pairs_of(papers or ())), True)
        self.assertEqual(len(trees), beat - 1)
        for lesser, tree in enumerate(trees, 1):
            self.assertIs(beat_tree_holds(machine, loop, lesser, tree, papers), True, (lesser, tree))
        return beat

    def tried(self, machine, loop, papers=None):
        """The same, or None where it is refused."""
        try:
            return self.least(machine, loop, papers)
        except TooMany as refusal:
            self.assertIsInstance(refusal.number, int)
            self.assertNotIsInstance(refusal.number, bool)
            return None

    def test_no_deeds(self):
        self.assertEqual(least_beat(MIXED, (0, (), ())), (1, (), ()))
        self.assertEqual(least_beat(WIDE, (2, (), (1, 0)), ()), (1, (), ()))

    def test_one_deed(self):
        for comes in range(1, 7):
            loop = (1, (("plus", 0, 0),), (1,))
            self.assertEqual(least_beat(machine_with(comes=comes), loop), (comes, (0,), (("ring", (0,)),) * (comes - 1)))
            for holds in range(1, 7):
                for many in range(1, 7):
                    machine = machine_with((("u", many),), holds=holds, comes=comes)
                    self.assertEqual(self.least(machine, loop), max(comes, -(-holds // many)))
                    self.assertEqual(self.least(machine, (1, loop[1], (0,))), -(-holds // many))

    def test_a_ring_over_several_rounds(self):
        machine = machine_with(plus=("u", 1, 5), minus=("u", 1, 6))
        # Eleven rows in two rounds, in three and in four.
        for rounds, beat in ((1, 11), (2, 6), (3, 4), (4, 3)):
            loop = (rounds, (("plus", rounds - 1, rounds - 1), ("minus", rounds, rounds)), (rounds + 1,) + tuple(range(rounds - 1)))
            self.assertEqual(self.least(machine, loop), beat)

    def test_rounds_laid_over_one_another(self):
        machine = machine_with((("mem", 1), ("alu", 1)), unit="alu", times=("alu", 1, 6), read=("mem", 1, 4), write=("mem", 1, 1))
        # The place goes on by one each round; what is read is squared and written where it was.
        loop = (2, (("read", 0, 0), ("times", 2, 2), ("plus", 0, 1)), (4, 1))
        beat, rows, trees = least_beat(machine, loop)
        self.assertEqual((beat, trees), (2, (("full", "alu"),)))
        self.assertGreater(max(rows), 3)

    def test_a_split_is_needed(self):
        # In a beat of eight neither a ring nor full shows it, yet both together do.
        machine = machine_with(ONE, plus=("u", 4, 3), minus=("u", 4, 5))
        loop = (1, (("plus", 0, 0), ("minus", 1, 1)), (2,))
        self.assertIs(one_knot_does(machine, loop, 8), False)
        beat, rows, trees = least_beat(machine, loop)
        self.assertEqual(self.least(machine, loop), least_beat_slowly(machine, loop))
        self.assertEqual(beat, 9)
        self.assertEqual(trees[7][0], "first")
        self.assertEqual(trees[:7], (("full", "u"),) * 7)

    def test_of_all_rests_gone_through(self):
        rng = random.Random(241)
        split = 0
        for _ in range(600):
            machine = tight_machine(rng)
            loop = rng.choice((some_loop(rng, 4), some_loop(rng, 4, RECKONING), ringed_loop(rng, 4)))
            papers = all_papers((loop[0], loop[1], ()))
            beat = self.least(machine, loop)
            self.assertEqual(beat, least_beat_slowly(machine, loop))
            less = self.least(machine, loop, papers)
            self.assertEqual(less, least_beat_slowly(machine, loop, pairs_of(papers)))
            self.assertLessEqual(less, beat)
            trees = least_beat(machine, loop)[2]
            split += any(tree[0] == "first" for tree in trees)
            for lesser, tree in enumerate(trees, 1):
                self.assertIs(beat_tree_slowly(machine, loop, lesser, tree), True)
        self.assertGreater(split, 20)

    def test_at_most_four_deeds_by_a_beat_below_6_are_never_refused(self):
        rng = random.Random(242)
        below, knots = 0, 0
        for _ in range(3000):
            machine = rng.choice((tight_machine, some_machine, lambda rng: tight_machine(rng, 6)))(rng)
            loop = rng.choice((some_loop(rng, 4), some_loop(rng, 4, RECKONING), ringed_loop(rng, 4)))
            beat = self.tried(machine, loop)
            if beat is None:
                self.assertFalse(any(has_beat_rows(machine, loop, lesser) for lesser in range(1, 6)))
                continue
            below += beat < 6
            knots = max([knots] + [beat_knots_in(tree) for tree in least_beat(machine, loop)[2]])
        self.assertGreater(below, 1500)
        self.assertGreater(knots, 20)

    def test_rows_laid_at_once_that_hold_are_never_refused(self):
        rng = random.Random(243)
        alone, with_papers = 0, 0
        for _ in range(250):
            machine = rng.choice((tight_machine, some_machine, lambda rng: tight_machine(rng, 6)))(rng)
            loop = full_loop(rng, 12, rng.choice((ROUNDING, RECKONING, WORDS[:9])))
            rows = laid_slowly(machine, (loop[0], loop[1], ()))
            for papers in (None, all_papers((loop[0], loop[1], ()))):
                pairs = pairs_of(papers or ())
                beat = 1
                while one_knot_does(machine, loop, beat, pairs):
                    beat += 1
                if beat_holds_slowly(machine, loop, beat, rows, pairs):
                    self.assertEqual(self.least(machine, loop, papers), beat)
                    alone += papers is None
                    with_papers += papers is not None
        self.assertGreater(alone, 40)
        self.assertGreater(with_papers, 40)

    def test_12_deeds_in_short_time(self):
        rng = random.Random(244)
        refused, split = 0, 0
        begun = time.process_time()
        for _ in range(80):
            machine = tight_machine(rng, rng.choice((3, 6)))
            loop = full_loop(rng, 12, rng.choice((ROUNDING, RECKONING)))
            beat = self.tried(machine, loop)
            refused += beat is None
            split += beat is not None and any(tree[0] == "first" for tree in least_beat(machine, loop)[2])
        # Eighty take about ten seconds here; each one must end in short time wherever it is run.
        self.assertLess(time.process_time() - begun, 240)
        self.assertLess(refused, 16)
        self.assertGreater(split, 1)

    def test_more_papers_are_never_a_greater_beat(self):
        rng = random.Random(245)
        lesser = 0
        for _ in range(250):
            machine = tight_machine(rng, 5)
            loop = rng.choice((late_writes(rng), some_loop(rng, 6, ("read", "write", "plus", "number"), givens=2)))
            papers = all_papers((loop[0], loop[1], ()))
            some = tuple(paper for paper in papers if rng.random() < 0.5)
            beats = [self.tried(machine, loop, told) for told in (None, some, papers)]
            beats = [beat for beat in beats if beat is not None]
            self.assertEqual(beats, sorted(beats, reverse=True))
            lesser += bool(beats) and beats[-1] < beats[0]
        self.assertGreater(lesser, 10)

    def test_more_units_are_never_a_greater_beat(self):
        rng = random.Random(246)
        lesser = 0
        for _ in range(250):
            machine, loop = tight_machine(rng), some_loop(rng, 8, givens=2)
            at = rng.randrange(len(machine[0]))
            units = tuple((name, many + (at == k)) for k, (name, many) in enumerate(machine[0]))
            one, other = self.tried(machine, loop), self.tried((units, machine[1]), loop)
            if one is not None and other is not None:
                self.assertLessEqual(other, one)
                lesser += other < one
        self.assertGreater(lesser, 30)

    def test_the_same_is_told_again(self):
        rng = random.Random(247)
        for _ in range(100):
            machine, loop = tight_machine(rng), some_loop(rng, 6)
            told = least_beat(machine, loop)
            self.assertEqual(least_beat(machine, loop), told)
            self.assertEqual(least_beat(machine, loop, None), told)
            self.assertEqual(least_beat(machine, loop, ()), told)

    def test_a_hard_one_is_refused_in_short_time(self):
        begun = time.process_time()
        self.assertIsNone(self.tried(*HARD))
        self.assertLess(time.process_time() - begun, 60)


class Rings(unittest.TestCase):
    def test_rings_by_chance(self):
        rng = random.Random(248)
        told = {True: 0, False: 0}
        for _ in range(2000):
            many = rng.randint(0, 6)
            edges = {(rng.randrange(many), rng.randrange(many)): rng.randint(-6, 3) for _ in range(2 * many)}
            ring = ring_in([(i, j, count) for (i, j), count in edges.items()], many)
            ways = dict(edges)
            for k in range(many):
                for i in range(many):
                    for j in range(many):
                        if (i, k) in ways and (k, j) in ways:
                            ways[i, j] = max(ways.get((i, j), -99), ways[i, k] + ways[k, j])
            self.assertIs(ring is not None, any(ways.get((k, k), 0) > 0 for k in range(many)))
            told[ring is not None] += 1
            if ring is not None:
                self.assertGreater(sum(edges[ring[at - 1], k] for at, k in enumerate(ring)), 0)
                continue
            far = farthest([(i, j, count) for (i, j), count in edges.items()], many)
            for i in range(many):
                for j in range(many):
                    expected = 0 if i == j else ways.get((i, j))
                    self.assertEqual(far[i][j] if far[i][j] > -1000 else None, expected)
        self.assertGreater(min(told.values()), 300)


if __name__ == "__main__":
    unittest.main()
