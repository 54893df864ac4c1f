"""A stretch run by rows (11), and the promise of rows that hold (3)."""

import itertools
import random
import unittest

from tests.samples import MEETING, WIDE, machine_with, run_one_by_one, some_begin, some_machine, some_rows, some_stretch
from widerows.errors import Early
from widerows.plain import plain_run
from widerows.rowruns import row_run
from widerows.rows import rows_hold
from widerows.unlike import all_papers

FAR = 10 ** 39


class RowRun(unittest.TestCase):
    def early(self, number, machine, stretch, rows, begin):
        with self.assertRaises(Early) as caught:
            row_run(machine, stretch, rows, begin)
        self.assertEqual(caught.exception.number, number)

    def test_ended(self):
        stretch = (2, (("plus", 0, 1), ("write", 0, 0, 2), ("read", 0, 0), ("times", 4, 2)), (5, 0, 5))
        for rows in ((0, 1, 1, 2), (3, 7, 9, FAR)):
            self.assertEqual(row_run(WIDE, stretch, rows, ((3, 4), ((9, 9),))), ("ended", (49, 3, 49), ((3, 7), (9, 9))))

    def test_without_deeds_and_outs(self):
        self.assertEqual(row_run(WIDE, (1, (), (0, 0)), (), ((4,), ((1, 2),))), ("ended", (4, 4), ((1, 2),)))
        self.assertEqual(row_run(WIDE, (0, (), ()), (), ((), ())), ("ended", (), ()))

    def test_row_by_row_and_in_a_row_in_order(self):
        stretch = (2, (("write", 0, 0, 0), ("write", 0, 0, 1), ("read", 0, 0)), (4,))
        for rows, read, left in (((0, 0, 0), 8, 8), ((1, 0, 0), 8, 5), ((1, 0, 1), 5, 5), ((1, 1, 0), 1, 8), ((0, 2, 1), 5, 8)):
            told = row_run(WIDE, stretch, rows, ((5, 8), ((5, 1),)))
            self.assertEqual(told, ("ended", (read,), ((5, left),)))

    def test_shelf_by_rows(self):
        stretch = (1, (("keep", 0, 0), ("fetch", 0)), (2,))
        self.assertEqual(row_run(WIDE, stretch, (0, 0), ((6,), ())), ("ended", (6,), ()))
        self.assertEqual(row_run(WIDE, stretch, (1, 0), ((6,), ())), ("ended", (0,), ()))

    def test_units_are_not_asked(self):
        machine = machine_with(units=(("u", 1),), holds=6)
        stretch = (0, (("number", 1), ("number", 2)), (1, 0))
        self.assertIs(rows_hold(machine, stretch, (0, 0)), False)
        self.assertEqual(row_run(machine, stretch, (0, 0), ((), ())), ("ended", (2, 1), ()))

    def test_fault_of_the_deed_that_comes_to_it_first(self):
        stretch = (2, (("share", 0, 1), ("write", 0, 0, 0), ("share", 0, 1), ("write", 0, 1, 0)), ())
        begin = ((3, 0), ((8, 8),))
        self.assertEqual(row_run(WIDE, stretch, (0, 0, 0, 0), begin), ("fault", 0, ((8, 8),)))
        self.assertEqual(row_run(WIDE, stretch, (2, 0, 1, 3), begin), ("fault", 2, ((3, 3), (8, 8))))
        self.assertEqual(row_run(WIDE, stretch, (2, 0, 2, 0), begin), ("fault", 0, ((3, 3), (4, 3), (8, 8))))
        self.assertEqual(row_run(WIDE, stretch, (1, 1, 0, 0), begin), ("fault", 2, ((8, 8),)))

    def test_early(self):
        for comes in range(1, 7):
            machine = machine_with(comes=comes)
            stretch = (1, (("number", 5), ("plus", 0, 1)), (2,))
            self.assertEqual(row_run(machine, stretch, (2, 2 + comes), ((3,), ())), ("ended", (8,), ()))
            for row in range(2 + comes):
                self.early(1, machine, stretch, (2, row), ((3,), ()))

    def test_early_tells_the_naming_deed(self):
        deeds = (("number", 5), ("number", 6), ("plus", 1, 0), ("write", 0, 0, 2), ("keep", 1, 0))
        self.early(2, WIDE, (1, deeds, ()), (0, 0, 0, 1, 1), ((3,), ()))
        self.early(3, WIDE, (1, deeds, ()), (0, 1, 1, 1, 1), ((3,), ()))
        self.early(4, WIDE, (1, deeds, ()), (1, 0, 2, 2, 0), ((3,), ()))

    def test_the_first_early_in_the_run(self):
        deeds = (("number", 5), ("plus", 1, 0), ("plus", 1, 1))
        self.early(2, WIDE, (1, deeds, ()), (5, 3, 2), ((3,), ()))
        self.early(1, WIDE, (1, deeds, ()), (5, 3, 3), ((3,), ()))
        self.early(1, WIDE, (1, deeds, ()), (5, 5, 6), ((3,), ()))

    def test_fault_ahead_of_an_early_and_the_other_way_about(self):
        deeds = (("number", 5), ("plus", 2, 2), ("share", 0, 1))
        begin = ((3, 0), ())
        self.early(1, WIDE, (2, deeds, ()), (0, 0, 1), begin)
        self.early(1, WIDE, (2, deeds, ()), (0, 0, 0), begin)
        self.assertEqual(row_run(WIDE, (2, deeds, ()), (2, 2, 1), begin), ("fault", 2, ()))
        self.assertEqual(row_run(WIDE, (2, deeds, ()), (1, 1, 0), begin), ("fault", 2, ()))
        turned = (("number", 5), ("share", 0, 1), ("plus", 2, 2))
        self.assertEqual(row_run(WIDE, (2, turned, ()), (0, 0, 0), begin), ("fault", 1, ()))

    def test_a_share_that_is_early_is_no_fault_yet(self):
        stretch = (1, (("number", 0), ("share", 0, 1)), ())
        self.early(1, WIDE, stretch, (0, 0), ((3,), ()))
        self.assertEqual(row_run(WIDE, stretch, (0, 1), ((3,), ())), ("fault", 1, ()))

    def test_outs_are_taken_at_the_end(self):
        machine = machine_with(comes=6)
        self.assertEqual(row_run(machine, (0, (("number", 5),), (0,)), (0,), ((), ())), ("ended", (5,), ()))

    def test_rows_that_do_not_hold_are_run_all_the_same(self):
        stretch = (2, (("write", 0, 0, 0), ("share", 0, 1), ("write", 0, 1, 0)), ())
        self.assertIs(rows_hold(WIDE, stretch, (2, 1, 0)), False)
        self.assertEqual(row_run(WIDE, stretch, (2, 1, 0), ((3, 0), ())), ("fault", 1, ((4, 3),)))
        self.assertEqual(row_run(WIDE, stretch, (2, 1, 0), ((3, 1), ())), ("ended", (), ((3, 3), (4, 3))))


class RowsThatHold(unittest.TestCase):
    def test_come_to_what_the_deeds_one_by_one_come_to(self):
        rng = random.Random(110)
        counts = {"ended": 0, "fault": 0, "passed": 0}
        for turn in range(1200):
            machine, stretch = some_machine(rng), some_stretch(rng, most=14, words=MEETING)
            papers = all_papers(stretch) if turn % 2 else ()
            rows = some_rows(rng, machine, stretch, [entry[:2] for entry in papers])
            self.assertIs(rows_hold(machine, stretch, rows, papers), True)
            counts["passed"] += any(rows[i] > rows[j] for i, j, paper in papers)
            for _ in range(8):
                begin = some_begin(rng, stretch)
                told = row_run(machine, stretch, rows, begin)
                self.assertEqual(told, plain_run(stretch, begin))
                self.assertEqual(told, run_one_by_one(stretch, begin)[0])
                counts[told[0]] += 1
        self.assertGreater(min(counts.values()), 60)

    def test_any_rows_that_the_checker_lets_by(self):
        """All rows to 3 of small stretches that meet in store, shelf and faults."""
        rng = random.Random(111)
        words = ("write", "read", "share", "keep", "fetch", "plus", "write", "share")
        machine = machine_with(units=(("u", 2),))
        let_by = 0
        for _ in range(60):
            stretch = some_stretch(rng, most=5, words=words, givens=2, low=0, high=1)
            papers = all_papers(stretch)
            begins = [some_begin(rng, stretch, low=0, high=1) for _ in range(6)]
            ends = [plain_run(stretch, begin) for begin in begins]
            for rows in itertools.product(range(4), repeat=len(stretch[1])):
                if not rows_hold(machine, stretch, rows, papers):
                    continue
                let_by += 1
                for begin, end in zip(begins, ends):
                    self.assertEqual(row_run(machine, stretch, rows, begin), end, (stretch, rows, begin))
        self.assertGreater(let_by, 500)

    def test_nothing_handed_in_is_changed_and_told_again_the_same(self):
        rng = random.Random(112)
        for _ in range(100):
            machine, stretch = some_machine(rng), some_stretch(rng)
            rows, begin = some_rows(rng, machine, stretch), some_begin(rng, stretch)
            before = repr((machine, stretch, rows, begin))
            once = row_run(machine, stretch, rows, begin)
            self.assertEqual(row_run(machine, stretch, rows, begin), once)
            self.assertEqual(repr((machine, stretch, rows, begin)), before)
