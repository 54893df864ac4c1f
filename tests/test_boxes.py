"""Boxes that hold, and the least number of them (15)."""

import itertools
import random
import unittest

from tests.samples import MEETING, MIXED, ODD, WIDE, machine_with, some_machine, some_rows, some_stretch, swapped
from tests.slow import boxes_slowly, length_slowly, lives_slowly, living_in
from widerows.boxes import boxes_hold, least_boxes

FAR = 10 ** 39


class BoxesHold(unittest.TestCase):
    def test_two_that_live_in_one_row(self):
        stretch = (0, (("number", 1), ("number", 2), ("plus", 0, 1)), (2,))
        self.assertIs(boxes_hold(WIDE, stretch, (0, 0, 1), (0, 1, 0)), True)
        self.assertIs(boxes_hold(WIDE, stretch, (0, 0, 1), (1, 0, 1)), True)
        self.assertIs(boxes_hold(WIDE, stretch, (0, 0, 1), (7, FAR, 7)), True)
        self.assertIs(boxes_hold(WIDE, stretch, (0, 0, 1), (0, 0, 1)), False)
        self.assertIs(boxes_hold(WIDE, stretch, (0, 0, 1), (3, 3, 3)), False)

    def test_one_row_apart(self):
        # The given lives in the rows 0 to r, the number from row 4 on.
        for row in range(8):
            stretch = (1, (("number", 1), ("less", 0, 0)), (1,))
            truth = row < 4
            machine = machine_with(number=("u", 1, 4))
            self.assertIs(boxes_hold(machine, stretch, (0, row), (0, 0, None)), truth, row)
            self.assertIs(boxes_hold(machine, stretch, (0, row), (0, 1, None)), True)

    def test_taken_over_when_it_is_named_for_the_last_time(self):
        chain = (1, tuple(("plus", k, k) for k in range(5)), (5,))
        for comes in range(1, 7):
            rows = tuple(range(0, 5 * comes, comes))
            self.assertIs(boxes_hold(machine_with(comes=comes), chain, rows, (0,) * 6), True)

    def test_three_in_one_box(self):
        stretch = (1, (("number", 1), ("less", 0, 0), ("less", 1, 1), ("number", 2)), (4,))
        rows = (3, 1, 6, 8)
        self.assertIs(boxes_hold(WIDE, stretch, rows, (0, 0, None, None, 0)), True)
        # The first lives beyond the second: only this pair, which begins side by side with no other, meets.
        self.assertIs(boxes_hold(WIDE, stretch, (3, 9, 6, 11), (0, 0, None, None, 0)), False)
        self.assertIs(boxes_hold(WIDE, stretch, (3, 9, 6, 7), (0, 1, None, None, 0)), False)
        self.assertIs(boxes_hold(WIDE, stretch, (3, 9, 6, 7), (0, 1, None, None, 1)), True)

    def test_none_for_who_does_not_live(self):
        stretch = (2, (("number", 1), ("write", 0, 0, 0), ("keep", 0, 3)), (2,))
        rows = (0, 0, 0)
        self.assertIs(boxes_hold(WIDE, stretch, rows, (0, None, 1, None, None)), True)
        for at in (1, 3, 4):
            for box in (0, 5, False, True, "", (), []):
                wrong = [0, None, 1, None, None]
                wrong[at] = box
                self.assertIs(boxes_hold(WIDE, stretch, rows, tuple(wrong)), False, wrong)
        for at in (0, 2):
            for box in (None, -1, -FAR, True, False, "0", "", (), (0,), [], [0], {}, {0: 0}):
                wrong = [0, None, 1, None, None]
                wrong[at] = box
                self.assertIs(boxes_hold(WIDE, stretch, rows, tuple(wrong)), False, wrong)

    def test_too_many_too_few_and_other_things(self):
        stretch = (1, (("number", 1),), (0, 1))
        self.assertIs(boxes_hold(WIDE, stretch, (0,), (0, 1)), True)
        for wrong in ((0,), (0, 1, 2), (0, 1, None), (), [0, 1], {0: 0, 1: 1}, "01", None, ((0, 1),), 0):
            self.assertIs(boxes_hold(WIDE, stretch, (0,), wrong), False, wrong)

    def test_no_worths(self):
        self.assertIs(boxes_hold(WIDE, (0, (), ()), (), ()), True)
        for wrong in ((None,), (0,), [], None, {}, "", 0, False):
            self.assertIs(boxes_hold(WIDE, (0, (), ()), (), wrong), False)
        self.assertIs(boxes_hold(WIDE, (2, (), ()), (), (None, None)), True)
        self.assertIs(boxes_hold(WIDE, (2, (), (1, 0)), (), (0, 1)), True)
        self.assertIs(boxes_hold(WIDE, (2, (), (1, 0)), (), (0, 0)), False)

    def test_far_rows(self):
        stretch = (1, (("number", 1), ("plus", 0, 1)), (2,))
        self.assertIs(boxes_hold(WIDE, stretch, (FAR, 2 * FAR), (0, 1, 0)), True)
        self.assertIs(boxes_hold(WIDE, stretch, (FAR, 2 * FAR), (0, 1, FAR)), True)
        self.assertIs(boxes_hold(WIDE, stretch, (FAR, 2 * FAR), (1, 1, 0)), False)
        self.assertEqual(least_boxes(WIDE, stretch, (FAR, 2 * FAR)), (2, (0, 1, 0), FAR + 1))

    def test_anything(self):
        stretch = (1, (("number", 1), ("plus", 0, 1)), (2,))
        for thing in ODD:
            self.assertIs(boxes_hold(WIDE, stretch, (0, 1), thing), False)
            self.assertIs(boxes_hold(WIDE, stretch, (0, 1), (thing, thing, thing)), False)
            if thing is not None:
                self.assertIs(boxes_hold(WIDE, (3, (), ()), (), (None, thing, None)), False)

    def test_swapped_parts(self):
        rng = random.Random(151)
        told = {True: 0, False: 0}
        for _ in range(1500):
            machine, stretch = some_machine(rng), some_stretch(rng, 6, MEETING)
            rows = some_rows(rng, machine, stretch)
            boxes = swapped(least_boxes(machine, stretch, rows)[1], rng, ODD[:36])
            truth = boxes_hold(machine, stretch, rows, boxes)
            self.assertIsInstance(truth, bool)
            told[truth] += 1
            good = isinstance(boxes, tuple) and len(boxes) == stretch[0] + len(stretch[1]) and all(
                box is None or isinstance(box, int) and not isinstance(box, bool) and box >= 0 for box in boxes)
            self.assertIs(truth, good and boxes_slowly(machine, stretch, rows, boxes))
        self.assertGreater(min(told.values()), 50)

    def test_many_by_chance(self):
        rng = random.Random(152)
        told = {True: 0, False: 0}
        for _ in range(2000):
            machine, stretch = some_machine(rng), some_stretch(rng, 6, MEETING)
            rows = some_rows(rng, machine, stretch)
            lives = lives_slowly(machine, stretch, rows)
            boxes = tuple(rng.randrange(3) if life else None for life in lives)
            truth = boxes_hold(machine, stretch, rows, boxes)
            self.assertIs(truth, boxes_slowly(machine, stretch, rows, boxes))
            told[truth] += 1
        self.assertGreater(min(told.values()), 300)


class LeastBoxes(unittest.TestCase):
    def test_none_lives(self):
        self.assertEqual(least_boxes(MIXED, (0, (), ()), ()), (0, (), None))
        self.assertEqual(least_boxes(MIXED, (2, (("number", 1), ("fetch", 0)), ()), (0, 1)), (0, (None,) * 4, None))

    def test_few(self):
        self.assertEqual(least_boxes(WIDE, (1, (), (0,)), ()), (1, (0,), 0))
        chain = (1, tuple(("plus", k, k) for k in range(5)), (5,))
        self.assertEqual(least_boxes(WIDE, chain, tuple(range(5))), (1, (0,) * 6, 0))
        stretch = (0, (("number", 1), ("number", 2), ("plus", 0, 1)), (2,))
        number, boxes, row = least_boxes(WIDE, stretch, (0, 4, 5))
        self.assertEqual((number, row), (2, 5))
        self.assertIs(boxes_hold(WIDE, stretch, (0, 4, 5), boxes), True)

    def test_the_first_row_in_which_so_many_live(self):
        # Two live in row 1, in the rows 5 and 6, and again at the end.
        stretch = (1, (("number", 1), ("less", 0, 1), ("number", 2), ("number", 3), ("less", 3, 4), ("number", 7), ("number", 8)),
                   (6, 7))
        self.assertEqual(least_boxes(WIDE, stretch, (0, 1, 4, 4, 6, 9, 8))[::2], (2, 1))
        self.assertEqual(least_boxes(WIDE, stretch, (0, 2, 4, 4, 6, 9, 8))[::2], (2, 1))
        late = (1, stretch[1] + (("number", 9),), (6, 7, 8))
        self.assertEqual(least_boxes(WIDE, late, (0, 1, 4, 4, 6, 9, 8, 12))[::2], (3, 13))

    def test_many_by_chance(self):
        rng = random.Random(153)
        for _ in range(500):
            machine, stretch = some_machine(rng), some_stretch(rng, 12, MEETING)
            rows = some_rows(rng, machine, stretch)
            told = least_boxes(machine, stretch, rows)
            number, boxes, row = told
            self.assertIs(boxes_hold(machine, stretch, rows, boxes), True)
            self.assertTrue(boxes_slowly(machine, stretch, rows, boxes))
            self.assertTrue(all(box is None or 0 <= box < number for box in boxes))
            lives = lives_slowly(machine, stretch, rows)
            counts = [len(living_in(lives, at)) for at in range(length_slowly(machine, stretch, rows) + 1)]
            self.assertEqual(number, max(counts))
            self.assertEqual(row, counts.index(number) if number else None)
            self.assertEqual(least_boxes(machine, stretch, rows), told)

    def test_fewer_never_do(self):
        rng = random.Random(154)
        looked = 0
        for _ in range(200):
            machine, stretch = some_machine(rng), some_stretch(rng, 5, MEETING)
            rows = some_rows(rng, machine, stretch)
            number = least_boxes(machine, stretch, rows)[0]
            lives = lives_slowly(machine, stretch, rows)
            if number < 2:
                continue
            looked += 1
            for boxes in itertools.product(*[range(number - 1) if life else (None,) for life in lives]):
                self.assertIs(boxes_hold(machine, stretch, rows, boxes), False)
        self.assertGreater(looked, 60)


if __name__ == "__main__":
    unittest.main()
