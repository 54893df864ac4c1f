"""Rows that hold, and their length (10)."""

import random
import unittest

from tests.samples import (
    MEETING, MIXED, ODD, WIDE, machine_with, rows_hold_slowly, some_machine, some_rows, some_stretch, swapped,
)
from widerows.rows import length_of, rows_hold
from widerows.unlike import all_papers

FAR = 10 ** 39


class Waiting(unittest.TestCase):
    def kept(self, machine, deeds, rows, papers=None):
        """The rows hold, and no longer where the later deed is begun a row earlier."""
        stretch = (2, tuple(deeds), ())
        self.assertIs(rows_hold(machine, stretch, rows, papers), True)
        early = rows[:-1] + (rows[-1] - 1,)
        self.assertIs(rows_hold(machine, stretch, early, papers), False)

    def test_a_worth_named(self):
        for comes in range(1, 7):
            machine = machine_with(comes=comes)
            self.kept(machine, (("number", 1), ("plus", 0, 2)), (3, 3 + comes))
            self.kept(machine, (("read", 0, 0), ("write", 0, 0, 2)), (0, comes))

    def test_comes_of_the_earlier_deed_counts(self):
        machine = machine_with(times=("u", 1, 5), plus=("u", 1, 2))
        self.kept(machine, (("times", 0, 1), ("plus", 2, 2)), (0, 5))
        self.kept(machine, (("plus", 0, 1), ("times", 2, 2)), (0, 2))

    def test_waits_of_0(self):
        write, read, share = ("write", 0, 0, 1), ("read", 0, 0), ("share", 0, 1)
        for pair in ((write, write), (write, read), (read, write), (share, share), (share, write), (write, share),
                     (("keep", 0, 1), ("fetch", 1)), (("fetch", 1), ("keep", 0, 1)), (("keep", 0, 1), ("keep", 1, 1))):
            self.kept(machine_with(comes=4), pair, (3, 3))
        for pair in ((read, read), (read, share), (share, read), (("fetch", 1), ("fetch", 1)), (("keep", 0, 1), ("keep", 0, 2)),
                     (("number", 1), ("number", 2))):
            self.assertIs(rows_hold(WIDE, (2, pair, ()), (9, 0)), True)

    def test_papers_lift(self):
        stretch = (2, (("write", 0, 0, 1), ("write", 0, 1, 1)), ())
        papers = all_papers(stretch)
        self.assertEqual(len(papers), 1)
        self.assertIs(rows_hold(WIDE, stretch, (5, 0), papers), True)
        self.assertIs(rows_hold(WIDE, stretch, (5, 0), ()), False)
        self.assertIs(rows_hold(WIDE, stretch, (5, 0), None), False)
        self.assertIs(rows_hold(WIDE, stretch, (5, 0)), False)

    def test_papers_lift_no_worth_named(self):
        deeds = (("read", 0, 0), ("write", 0, 1, 2))
        self.kept(WIDE, deeds, (4, 5), all_papers((2, deeds, ())))

    def test_far_rows(self):
        deeds = (("number", 1), ("plus", 0, 2))
        self.kept(machine_with(comes=6), deeds, (FAR, FAR + 6))


class Units(unittest.TestCase):
    def held(self, machine, deeds, rows, truth):
        self.assertIs(rows_hold(machine, (2, tuple(deeds), ()), rows), truth, rows)

    def test_just_enough_and_one_too_few(self):
        for many in range(1, 7):
            machine = machine_with(units=(("u", many),))
            self.held(machine, (("number", 1),) * many, (4,) * many, True)
            self.held(machine, (("number", 1),) * (many + 1), (4,) * (many + 1), False)
            self.held(machine, (("number", 1),) * (many + 1), (4,) * many + (5,), True)
            self.held(machine, (("number", 1),) * (many + 1), (4,) * many + (3,), True)

    def test_held_over_several_rows(self):
        for holds in range(1, 7):
            machine = machine_with(units=(("u", 1),), holds=holds)
            for gap in range(8):
                self.held(machine, (("number", 1),) * 2, (10, 10 + gap), gap >= holds)
                self.held(machine, (("number", 1),) * 2, (10 + gap, 10), gap >= holds)

    def test_holds_unlike_and_units_of_two(self):
        machine = machine_with(units=(("u", 2),), number=("u", 3, 1), fetch=("u", 1, 1))
        deeds = (("number", 1), ("number", 1), ("fetch", 0))
        for rows, truth in (((0, 0, 2), False), ((0, 0, 3), True), ((0, 1, 0), True), ((0, 1, 2), False), ((0, 1, 3), True),
                            ((2, 4, 4), False), ((2, 4, 5), True), ((2, 4, 3), True)):
            self.held(machine, deeds, rows, truth)

    def test_overlap_without_a_row_in_which_all_are_begun(self):
        machine = machine_with(units=(("u", 2),), holds=6)
        self.held(machine, (("number", 1),) * 3, (0, 3, 5), False)
        self.held(machine, (("number", 1),) * 3, (0, 3, 6), True)
        self.held(machine, (("number", 1),) * 3, (5, 3, 0), False)

    def test_each_unit_for_itself(self):
        machine = machine_with(units=(("u", 1), ("v", 1)), fetch=("v", 2, 1))
        deeds = (("number", 1), ("fetch", 0), ("fetch", 0))
        self.held(machine, deeds, (0, 0, 2), True)
        self.held(machine, deeds, (0, 0, 1), False)
        self.held(machine, deeds, (1, 0, 2), True)

    def test_held_beyond_the_length_and_over_comes(self):
        machine = machine_with(units=(("u", 1),), holds=6, comes=1)
        self.held(machine, (("number", 1), ("plus", 2, 2)), (0, 1), False)
        self.held(machine, (("number", 1), ("plus", 2, 2)), (0, 6), True)
        machine = machine_with(units=(("u", 1),), holds=1, comes=6)
        self.held(machine, (("number", 1), ("number", 2)), (0, 1), True)

    def test_far_rows(self):
        machine = machine_with(units=(("u", 1),), holds=6)
        self.held(machine, (("number", 1),) * 3, (0, FAR, FAR + 6), True)
        self.held(machine, (("number", 1),) * 3, (0, FAR, FAR + 5), False)
        self.held(machine, (("number", 1),) * 3, (FAR, 0, FAR - 6), True)


class OfAnything(unittest.TestCase):
    stretch = (1, (("number", 1), ("write", 0, 0, 1), ("write", 0, 1, 1)), ())
    rows = (0, 1, 1)

    def test_rows(self):
        self.assertIs(rows_hold(WIDE, self.stretch, self.rows), True)
        for thing in ODD:
            self.assertIs(rows_hold(WIDE, self.stretch, thing), False)
            if thing is not None and not (type(thing) is int and thing >= 1):
                self.assertIs(rows_hold(WIDE, self.stretch, (0, thing, FAR)), False)
        for thing in (list(self.rows), (0, 1), (0, 1, 1, 1), (), (0, 1, True), (False, 1, 1), (0, 1, -1), (-1, 1, 1), (0, 1, None),
                      (0, 1, "1"), (0, 1, (1,)), {0: 0, 1: 1, 2: 1}, "011", None, (0, 1, [1])):
            self.assertIs(rows_hold(WIDE, self.stretch, thing), False, thing)

    def test_without_deeds(self):
        empty = (2, (), (0,))
        self.assertIs(rows_hold(WIDE, empty, ()), True)
        for thing in ODD:
            self.assertIs(rows_hold(WIDE, empty, thing), type(thing) is tuple and thing == ())

    def test_papers(self):
        for papers in (None, (), all_papers(self.stretch)):
            self.assertIs(rows_hold(WIDE, self.stretch, self.rows, papers), True)
        wrong = [[], 0, "", "no", {}, False, True, ((1, 2, (2, ()), 0),), ((1, 2, (1, ())),), ((2, 1, (0, ())),), [(1, 2, (0, ()))],
                 ((0, 1, (0, ())),), ((1, 2, (0, ())), (1, 2, (0, ())))]
        for papers in wrong + [thing for thing in ODD if thing is not None and thing != ()]:
            self.assertIs(rows_hold(WIDE, self.stretch, self.rows, papers), False, repr(papers)[:80])
            self.assertIs(rows_hold(WIDE, (0, (), ()), (), papers), False)

    def test_by_chance_against_the_slow_one(self):
        rng = random.Random(100)
        counts = {True: 0, False: 0}
        for _ in range(700):
            machine, stretch = some_machine(rng), some_stretch(rng, words=MEETING)
            papers = tuple(entry for entry in all_papers(stretch) if rng.random() < 0.6)
            pairs = [entry[:2] for entry in papers]
            rows = some_rows(rng, machine, stretch, pairs, slack=1)
            before = repr((machine, stretch, rows, papers))
            self.assertIs(rows_hold(machine, stretch, rows, papers), True)
            for _ in range(6):
                other = tuple(max(0, row + rng.choice((0, 0, 0, -1, 1))) for row in rows)
                slow = rows_hold_slowly(machine, stretch, other, pairs)
                self.assertIs(rows_hold(machine, stretch, other, papers), slow)
                counts[slow] += 1
                self.assertIn(rows_hold(machine, stretch, swapped(rows, rng, ODD[:30]), papers), (True, False))
            self.assertEqual(repr((machine, stretch, rows, papers)), before)
        self.assertGreater(min(counts.values()), 500)


class LengthOf(unittest.TestCase):
    def test_greatest_row_and_comes(self):
        deeds = (("number", 1), ("times", 0, 0), ("write", 0, 0, 0))
        stretch = (1, deeds, ())
        self.assertEqual(length_of(MIXED, stretch, (0, 0, 0)), 4)
        self.assertEqual(length_of(MIXED, stretch, (9, 0, 0)), 10)
        self.assertEqual(length_of(MIXED, stretch, (0, 3, 6)), 7)
        self.assertEqual(length_of(MIXED, stretch, (0, 2, 6)), 7)
        self.assertEqual(length_of(MIXED, stretch, (6, 4, 6)), 8)
        self.assertEqual(length_of(MIXED, stretch, (FAR, 0, 0)), FAR + 1)

    def test_comes_counts_and_not_holds(self):
        self.assertEqual(length_of(machine_with(holds=6, comes=2), (0, (("number", 1),), ()), (3,)), 5)

    def test_without_deeds(self):
        self.assertEqual(length_of(MIXED, (3, (), (0,)), ()), 0)
