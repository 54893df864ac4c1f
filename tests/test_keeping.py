"""Worths kept on the shelf (17)."""

import random
import unittest

from tests.samples import WIDE, WORDS, machine_with, run_one_by_one, some_begin, some_machine, some_stretch
from tests.slow import boxes_slowly
from widerows.boxes import boxes_hold, least_boxes
from widerows.boxruns import box_run
from widerows.deeds import is_stretch
from widerows.errors import NoBoxes
from widerows.greedy import laid
from widerows.keeping import kept
from widerows.plain import plain_run
from widerows.rows import rows_hold

# Words without keeps and fetches; writes seldom, so that many worths live at once.
SHELFLESS = WORDS[:9] + ("plus", "minus", "read", "number", "pick")
SIX_APART = (0, tuple(("number", k) for k in range(6)) + (
    ("pick", 0, 1, 2), ("pick", 3, 4, 5), ("pick", 0, 2, 4), ("plus", 6, 7), ("plus", 8, 9)), (10,))


def full_stretch(rng, many, givens, outs):
    """A stretch of so many deeds, givens and outs, these unlike where there are as many worths."""
    stretch = some_stretch(rng, many, SHELFLESS, givens=givens)
    while len(stretch[1]) < many:
        stretch = some_stretch(rng, many, SHELFLESS, givens=givens)
    deeds = stretch[1]
    worths = list(range(givens)) + [givens + k for k, deed in enumerate(deeds) if deed[0] != "write"]
    chosen = rng.sample(worths, min(outs, len(worths)))
    return (givens, deeds, tuple(chosen))


class Kept(unittest.TestCase):
    def check(self, rng, machine, stretch, number):
        """What is told for a number that is enough; tells whether that number does for the rows laid at once."""
        told, rows, boxes = kept(machine, stretch, number)
        self.assertIs(is_stretch(told), True)
        self.assertEqual(told[0], stretch[0])
        self.assertIs(rows_hold(machine, told, rows), True)
        self.assertIs(boxes_hold(machine, told, rows, boxes), True)
        self.assertTrue(boxes_slowly(machine, told, rows, boxes))
        self.assertTrue(all(box is None or 0 <= box < number for box in boxes))
        places = [at for at, deed in enumerate(told[1]) if deed[0] not in ("keep", "fetch")]
        self.assertEqual([told[1][at][0] for at in places], [deed[0] for deed in stretch[1]])
        for _ in range(4):
            begin = some_begin(rng, stretch)
            end = run_one_by_one(stretch, begin)[0]
            if end[0] == "fault":
                end = ("fault", places[end[1]], end[2])
            self.assertEqual(plain_run(told, begin), end)
            self.assertEqual(box_run(machine, told, rows, boxes, begin), end)
        at_once = laid(machine, stretch)
        least = least_boxes(machine, stretch, at_once)[0]
        if least <= number:
            self.assertEqual((told, rows), (stretch, at_once))
        self.assertEqual(kept(machine, stretch, number), (told, rows, boxes))
        return least <= number

    def test_the_stretch_itself(self):
        stretch = (2, (("plus", 0, 1), ("times", 2, 0)), (3,))
        self.assertEqual(kept(WIDE, stretch, 4)[:2], (stretch, (0, 1)))
        self.assertEqual(kept(WIDE, (0, (), ()), 4), ((0, (), ()), (), ()))
        self.assertEqual(kept(WIDE, (4, (), (1, 3)), 4)[:2], ((4, (), (1, 3)), ()))

    def test_just_enough_boxes_and_one_too_few(self):
        rng = random.Random(170)
        least = least_boxes(WIDE, SIX_APART, laid(WIDE, SIX_APART))[0]
        self.assertEqual(least, 6)
        self.assertIs(self.check(rng, WIDE, SIX_APART, 7), True)
        self.assertIs(self.check(rng, WIDE, SIX_APART, 6), True)
        self.assertIs(self.check(rng, WIDE, SIX_APART, 5), False)
        self.assertIs(self.check(rng, WIDE, SIX_APART, 4), False)
        self.assertIn("keep", [deed[0] for deed in kept(WIDE, SIX_APART, 4)[0][1]])
        self.assertIn("fetch", [deed[0] for deed in kept(WIDE, SIX_APART, 4)[0][1]])

    def test_laid_in_order_it_may_need_no_shelf(self):
        # At once all numbers are begun in row 0, in order each is begun when its box is free.
        deeds = sum(((("number", k), ("write", 0, k, 1 + 2 * k)) for k in range(6)), ())
        machine, stretch = machine_with(comes=2), (1, deeds, (0,))
        self.assertGreater(least_boxes(machine, stretch, laid(machine, stretch))[0], 4)
        self.assertEqual(kept(machine, stretch, 4)[0], stretch)

    def test_refused(self):
        stretch = (2, (("plus", 0, 1),), (2,))
        for number in (3, 2, 1, 0, -1, -1000000):
            with self.assertRaises(NoBoxes):
                kept(WIDE, stretch, number)
        kept(WIDE, stretch, 4)
        for givens in range(4, 8):
            kept(WIDE, (givens, (), ()), givens)
            with self.assertRaises(NoBoxes):
                kept(WIDE, (givens, (), ()), givens - 1)
        for many in range(4, 8):
            deeds = tuple(("number", k) for k in range(many))
            outs = tuple(range(many))
            kept(WIDE, (0, deeds, outs), many)
            kept(WIDE, (0, deeds, outs + outs), many)
            with self.assertRaises(NoBoxes):
                kept(WIDE, (0, deeds, outs), many - 1)
        kept(WIDE, (0, (("number", 1),), (0,) * 9), 4)

    def test_all_givens_and_all_outs(self):
        rng = random.Random(172)
        deeds = (("plus", 0, 1), ("plus", 2, 3), ("plus", 4, 5), ("pick", 6, 7, 8), ("minus", 0, 5), ("minus", 1, 4),
                 ("pick", 2, 9, 10), ("less", 3, 0))
        for outs in ((6, 7, 8, 9, 10, 11), (0, 1, 2, 3, 4, 5), (12, 13, 0, 5, 6, 11), (9, 9, 9), ()):
            for machine in (WIDE, machine_with(comes=3), machine_with((("u", 1),), holds=2)):
                for number in (6, 7, 8):
                    self.check(rng, machine, (6, deeds, outs), number)

    def test_a_fault_behind_keeps_and_fetches(self):
        deeds = tuple(("number", k) for k in range(7)) + (("share", 1, 0), ("pick", 0, 1, 2), ("pick", 3, 4, 5), ("pick", 6, 8, 9))
        stretch = (0, deeds, (10,))
        told, rows, boxes = kept(WIDE, stretch, 4)
        at = [deed[0] for deed in told[1]].index("share")
        self.assertGreater(at, 7)
        self.assertEqual(plain_run(told, ((), ((1, 2),))), ("fault", at, ((1, 2),)))
        self.assertEqual(box_run(WIDE, told, rows, boxes, ((), ((1, 2),))), ("fault", at, ((1, 2),)))

    def test_many_by_chance(self):
        rng = random.Random(173)
        told = {True: 0, False: 0}
        for _ in range(500):
            machine = some_machine(rng)
            stretch = full_stretch(rng, rng.randint(0, 16), rng.randint(1, 4), rng.randint(0, 4))
            told[self.check(rng, machine, stretch, rng.randint(4, 6))] += 1
        self.assertGreater(min(told.values()), 100)

    def test_24_deeds_six_givens_six_outs(self):
        rng = random.Random(174)
        told = {True: 0, False: 0}
        for _ in range(120):
            stretch = full_stretch(rng, 24, 6, 6)
            machine = rng.choice((WIDE, some_machine(rng), machine_with(comes=6), machine_with((("u", 1),), holds=6)))
            told[self.check(rng, machine, stretch, rng.choice((6, 6, 7, 9)))] += 1
        self.assertGreater(told[False], 50)


if __name__ == "__main__":
    unittest.main()
