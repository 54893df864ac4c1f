"""A stretch run by boxes (16)."""

import random
import unittest

from tests.samples import MEETING, WIDE, machine_with, run_one_by_one, some_begin, some_machine, some_rows, some_stretch
from tests.slow import box_run_slowly, lives_slowly
from widerows.boxes import boxes_hold, least_boxes
from widerows.boxruns import box_run
from widerows.plain import plain_run
from widerows.rowruns import row_run
from widerows.unlike import all_papers


class BoxRun(unittest.TestCase):
    def outs(self, machine, stretch, rows, boxes, worths=()):
        word, told, store = box_run(machine, stretch, rows, boxes, (worths, ()))
        self.assertEqual((word, store), ("ended", ()))
        return told

    def test_no_deeds(self):
        self.assertEqual(box_run(WIDE, (0, (), ()), (), (), ((), ())), ("ended", (), ()))
        self.assertEqual(box_run(WIDE, (2, (), (1, 0, 1)), (), (0, 1), ((5, 6), ((3, 4),))), ("ended", (6, 5, 6), ((3, 4),)))

    def test_boxes_that_hold(self):
        stretch = (2, (("plus", 0, 1), ("times", 2, 2), ("write", 0, 1, 3), ("read", 0, 1)), (3, 5))
        rows = (0, 1, 2, 2)
        number, boxes, row = least_boxes(WIDE, stretch, rows)
        self.assertEqual(box_run(WIDE, stretch, rows, boxes, ((2, 3), ())), ("ended", (25, 25), ((3, 25),)))

    def test_a_fault(self):
        stretch = (2, (("write", 0, 0, 1), ("share", 0, 1), ("write", 0, 1, 1)), (3,))
        boxes = (0, 1, None, 2, None)
        self.assertEqual(box_run(WIDE, stretch, (0, 1, 2), boxes, ((7, 2), ())), ("ended", (3,), ((7, 2), (8, 2))))
        self.assertEqual(box_run(WIDE, stretch, (0, 1, 2), boxes, ((7, 0), ((7, 5),))), ("fault", 1, ()))
        self.assertEqual(box_run(WIDE, stretch, (0, 0, 0), boxes, ((7, 0), ((1, 5),))), ("fault", 1, ((1, 5),)))

    def test_of_several_faults_the_first_in_the_run(self):
        stretch = (1, (("number", 0), ("share", 0, 1), ("share", 0, 1)), ())
        self.assertEqual(box_run(WIDE, stretch, (0, 1, 1), (0, 1, None, None), ((4,), ())), ("fault", 1, ()))
        self.assertEqual(box_run(WIDE, stretch, (0, 3, 2), (0, 1, None, None), ((4,), ())), ("fault", 2, ()))

    def test_givens_are_put_in_in_order(self):
        self.assertEqual(self.outs(WIDE, (3, (), (0, 1, 2)), (), (4, 9, 4), (5, 6, 7)), (7, 6, 7))
        self.assertEqual(self.outs(WIDE, (2, (("plus", 0, 1),), (2,)), (0,), (3, 3, 0), (5, 6)), (12,))

    def test_0_in_each_at_first_and_without_box(self):
        stretch = (2, (("plus", 0, 1),), (2, 0, 1))
        self.assertEqual(self.outs(WIDE, stretch, (0,), (None, 1, 2), (5, 6)), (6, 0, 6))
        self.assertEqual(self.outs(WIDE, stretch, (0,), (None, None, 2), (5, 6)), (0, 0, 0))
        self.assertEqual(self.outs(WIDE, stretch, (0,), (0, 1, None), (5, 6)), (0, 5, 6))
        share = (1, (("share", 0, 0),), ())
        self.assertEqual(box_run(WIDE, share, (0,), (None, None), ((5,), ())), ("fault", 0, ()))
        number = (0, (("number", 7), ("plus", 0, 0)), (1, 0))
        self.assertEqual(self.outs(WIDE, number, (0, 1), (None, 0)), (0, 0))

    def test_put_in_behind_the_row_ahead_of_that_in_which_it_comes(self):
        # The given's box is taken over by the number; the less still finds the given till the number comes.
        for comes in range(1, 7):
            machine = machine_with(number=("u", 1, comes))
            for row in range(9):
                stretch = (1, (("number", 50), ("plus", 0, 0)), (2,))
                told = self.outs(machine, stretch, (1, row), (0, 0, 1), (3,))
                self.assertEqual(told, (6 if row < 1 + comes else 100,), (comes, row))

    def test_several_that_come_at_once_in_the_order_of_their_numbers(self):
        machine = machine_with(number=("u", 1, 2), fetch=("u", 1, 3), plus=("u", 1, 1))
        stretch = (1, (("number", 8), ("plus", 0, 0), ("number", 9)), (1, 2, 3))
        # All in one box, all coming in row 4; then the plus last of all.
        self.assertEqual(self.outs(machine, stretch, (2, 3, 2), (1, 0, 0, 0), (3,)), (9, 9, 9))
        self.assertEqual(self.outs(machine, stretch, (2, 4, 2), (1, 0, 0, 0), (3,)), (6, 6, 6))
        self.assertEqual(self.outs(machine, stretch, (2, 3, 1), (1, 0, 0, 0), (3,)), (6, 6, 6))
        self.assertEqual(self.outs(machine, stretch, (2, 2, 1), (1, 0, 0, 0), (3,)), (8, 8, 8))

    def test_outs_are_taken_out_at_the_end(self):
        # The late number lies in the box when all has come, whoever else had it.
        machine = machine_with(number=("u", 1, 6))
        stretch = (1, (("number", 8), ("plus", 0, 0)), (2,))
        self.assertEqual(self.outs(machine, stretch, (0, 1), (0, 1, 1), (3,)), (8,))

    def test_a_write_or_keep_puts_nothing_in_a_box(self):
        stretch = (2, (("write", 0, 0, 1), ("keep", 1, 2), ("fetch", 2)), (0, 1, 4))
        told = box_run(WIDE, stretch, (0, 0, 1), (0, 1, 0, 1, 2), ((3, 4), ()))
        self.assertEqual(told, ("ended", (3, 4, 4), ((3, 4),)))

    def test_the_shelf(self):
        stretch = (1, (("keep", 0, 5), ("number", 9), ("fetch", 5), ("fetch", 6)), (3, 4))
        self.assertEqual(self.outs(WIDE, stretch, (0, 0, 3, 3), (0, None, None, 0, 1), (3,)), (3, 0))

    def test_in_a_row_deeds_act_in_order(self):
        stretch = (2, (("write", 0, 0, 1), ("read", 0, 0), ("write", 0, 0, 0), ("read", 0, 0)), (3, 5))
        self.assertEqual(box_run(WIDE, stretch, (0, 0, 0, 0), (0, 1, None, 2, None, 3), ((5, 6), ())),
                         ("ended", (6, 5), ((5, 5),)))

    def test_far_rows(self):
        far = 10 ** 39
        stretch = (1, (("number", 8), ("plus", 0, 1)), (2,))
        self.assertEqual(self.outs(WIDE, stretch, (far, 2 * far), (0, 1, 0), (3,)), (11,))

    def test_with_boxes_that_hold_as_by_rows_and_plainly(self):
        rng = random.Random(160)
        ends = {"ended": 0, "fault": 0}
        for _ in range(400):
            machine, stretch = some_machine(rng), some_stretch(rng, 12, MEETING)
            papers = all_papers(stretch)
            rows = some_rows(rng, machine, stretch, [paper[:2] for paper in papers] if rng.random() < 0.5 else ())
            boxes = least_boxes(machine, stretch, rows)[1]
            spread = tuple(None if box is None else 5 * box + 3 for box in boxes)
            for _ in range(3):
                begin = some_begin(rng, stretch)
                end = box_run(machine, stretch, rows, boxes, begin)
                self.assertEqual(end, run_one_by_one(stretch, begin)[0])
                self.assertEqual(end, plain_run(stretch, begin))
                self.assertEqual(end, row_run(machine, stretch, rows, begin))
                self.assertEqual(end, box_run(machine, stretch, rows, spread, begin))
                ends[end[0]] += 1
        self.assertGreater(min(ends.values()), 100)

    def test_with_any_boxes_row_by_row(self):
        rng = random.Random(161)
        unlike = 0
        for _ in range(800):
            machine, stretch = some_machine(rng), some_stretch(rng, 10, MEETING)
            rows = some_rows(rng, machine, stretch)
            boxes = tuple(rng.choice((0, 1, 2, 9, None)) for _ in lives_slowly(machine, stretch, rows))
            begin = some_begin(rng, stretch)
            end = box_run(machine, stretch, rows, boxes, begin)
            self.assertEqual(end, box_run_slowly(machine, stretch, rows, boxes, begin))
            self.assertEqual(box_run(machine, stretch, rows, boxes, begin), end)
            if end != plain_run(stretch, begin):
                unlike += 1
                self.assertIs(boxes_hold(machine, stretch, rows, boxes), False)
        self.assertGreater(unlike, 100)


if __name__ == "__main__":
    unittest.main()
