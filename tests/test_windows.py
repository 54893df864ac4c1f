"""Windows narrowed by waits (13)."""

import random
import unittest

from tests.samples import MEETING, some_machine, some_stretch, waits_slowly
from tests.slow import narrowed_slowly
from widerows.windows import narrowed

FAR = 10 ** 39


class Narrowed(unittest.TestCase):
    def test_no_deeds_and_no_waits(self):
        self.assertEqual(narrowed((), ()), ())
        self.assertEqual(narrowed((), ((0, 4), (3, 3))), ((0, 4), (3, 3)))
        self.assertIsNone(narrowed((), ((0, 4), (3, 2))))

    def test_a_wait_narrows_first_and_last(self):
        self.assertEqual(narrowed(((0, 1, 3),), ((0, 9), (0, 9))), ((0, 6), (3, 9)))
        self.assertEqual(narrowed(((0, 1, 0),), ((2, 9), (0, 7))), ((2, 7), (2, 7)))

    def test_waits_that_narrow_nothing(self):
        windows = ((0, 2), (5, 9), (5, 7))
        self.assertEqual(narrowed(((0, 1, 3), (0, 2, 0)), windows), windows)

    def test_along_a_chain(self):
        waits = ((0, 1, 2), (1, 2, 3), (2, 3, 4))
        self.assertEqual(narrowed(waits, ((0, 20),) * 4), ((0, 11), (2, 13), (5, 16), (9, 20)))
        self.assertEqual(narrowed(waits, ((1, 20), (0, 20), (0, 12), (0, 20))), ((1, 7), (3, 9), (6, 12), (10, 20)))

    def test_one_row_left_or_none(self):
        waits = ((0, 1, 2), (1, 2, 3))
        self.assertEqual(narrowed(waits, ((0, 5),) * 3), ((0, 0), (2, 2), (5, 5)))
        self.assertIsNone(narrowed(waits, ((0, 4),) * 3))
        self.assertIsNone(narrowed(((0, 1, 1),), ((4, 9), (0, 4))))

    def test_the_greatest_of_several_waits(self):
        waits = ((0, 2, 1), (0, 3, 6), (1, 2, 4), (1, 3, 2))
        self.assertEqual(narrowed(waits, ((0, 9),) * 4), ((0, 3), (0, 5), (4, 9), (6, 9)))

    def test_below_0_and_far_away(self):
        self.assertEqual(narrowed(((0, 1, 3),), ((-9, -2), (-8, -1))), ((-9, -4), (-6, -1)))
        self.assertIsNone(narrowed(((0, 1, 3),), ((-4, -2), (-8, -2))))
        self.assertIsNone(narrowed((), ((0, -1),)))
        self.assertEqual(narrowed(((0, 1, 6),), ((-FAR, FAR), (-FAR, FAR))), ((-FAR, FAR - 6), (6 - FAR, FAR)))

    def test_narrowed_again_is_the_same(self):
        rng = random.Random(13)
        told = {True: 0, False: 0}
        for _ in range(600):
            machine, stretch = some_machine(rng), some_stretch(rng, 10, MEETING)
            waits = waits_slowly(machine, stretch)
            bottom = rng.choice((0, -8))
            windows = []
            for _ in stretch[1]:
                first = rng.randrange(4) + bottom
                windows.append((first, first + rng.randrange(14)))
            windows = tuple(windows)
            narrow = narrowed(waits, windows)
            self.assertEqual(narrow, narrowed_slowly(waits, windows))
            told[narrow is None] += 1
            if narrow is not None:
                self.assertIsInstance(narrow, tuple)
                self.assertTrue(all(isinstance(window, tuple) for window in narrow))
                self.assertEqual(narrowed(waits, narrow), narrow)
        self.assertGreater(min(told.values()), 50)


if __name__ == "__main__":
    unittest.main()
