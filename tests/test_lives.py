"""From which row to which row worths live (15)."""

import random
import unittest

from tests.samples import MEETING, MIXED, WIDE, machine_with, named, some_machine, some_rows, some_stretch
from tests.slow import length_slowly, lives_slowly
from widerows.lives import lives_of

FAR = 10 ** 39


class Lives(unittest.TestCase):
    def test_no_deeds(self):
        self.assertEqual(lives_of(MIXED, (0, (), ()), ()), ())
        self.assertEqual(lives_of(MIXED, (3, (), (2, 0, 2)), ()), ((0, 0), None, (0, 0)))

    def test_givens_from_row_0(self):
        stretch = (3, (("plus", 0, 0), ("minus", 0, 1)), ())
        self.assertEqual(lives_of(WIDE, stretch, (4, 7)), ((0, 7), (0, 7), None, None, None))
        self.assertEqual(lives_of(WIDE, stretch, (7, 4)), ((0, 7), (0, 4), None, None, None))
        self.assertEqual(lives_of(WIDE, stretch, (0, 0)), ((0, 0), (0, 0), None, None, None))

    def test_worths_from_the_row_in_which_they_come(self):
        for comes in range(1, 7):
            machine = machine_with(comes=comes)
            stretch = (0, (("number", 1), ("plus", 0, 0), ("less", 0, 1)), ())
            rows = (2, 2 + comes, 3 + 2 * comes)
            self.assertEqual(lives_of(machine, stretch, rows), ((2 + comes, rows[2]), (2 + 2 * comes, rows[2]), None))

    def test_the_last_row_not_the_last_deed(self):
        stretch = (1, (("write", 0, 0, 0), ("read", 0, 0), ("less", 0, 0)), ())
        self.assertEqual(lives_of(WIDE, stretch, (3, 9, 5)), ((0, 9), None, None, None))

    def test_outs_to_the_rows_length(self):
        machine = machine_with(times=("u", 1, 6))
        stretch = (2, (("number", 1), ("times", 0, 2), ("plus", 0, 2)), (0, 2, 4))
        # The times comes last, in row 8, and nobody names it.
        self.assertEqual(lives_of(machine, stretch, (0, 2, 3)), ((0, 8), None, (1, 8), None, (4, 8)))
        self.assertEqual(lives_of(WIDE, (0, (("number", 1),), (0,)), (5,)), ((6, 6),))

    def test_each_place_of_a_deed_names(self):
        stretch = (4, (("pick", 0, 1, 2), ("write", 3, 0, 4), ("keep", 4, 1), ("fetch", 1)), ())
        self.assertEqual(lives_of(WIDE, stretch, (0, 1, 2, 3)),
                         ((0, 0), (0, 0), (0, 0), (0, 1), (1, 2), None, None, None))

    def test_writes_and_keeps(self):
        stretch = (1, (("write", 0, 0, 0), ("keep", 0, 0), ("number", 0)), (3,))
        self.assertEqual(lives_of(WIDE, stretch, (0, 0, 0)), ((0, 0), None, None, (1, 1)))

    def test_far_rows(self):
        stretch = (1, (("number", 1), ("plus", 0, 1)), (2,))
        self.assertEqual(lives_of(WIDE, stretch, (FAR, 2 * FAR)), ((0, 2 * FAR), (FAR + 1, 2 * FAR), (2 * FAR + 1,) * 2))

    def test_many_by_chance(self):
        rng = random.Random(150)
        for _ in range(300):
            machine, stretch = some_machine(rng), some_stretch(rng, 10, MEETING)
            rows = some_rows(rng, machine, stretch)
            told = lives_of(machine, stretch, rows)
            self.assertIsInstance(told, tuple)
            self.assertEqual(told, lives_slowly(machine, stretch, rows))
            self.assertEqual(len(told), stretch[0] + len(stretch[1]))
            length = length_slowly(machine, stretch, rows)
            for worth, life in enumerate(told):
                somebody = worth in stretch[2] or any(worth in named(deed) for deed in stretch[1])
                self.assertEqual(life is not None, somebody)
                if life:
                    self.assertLessEqual(life[0], life[1])
                    self.assertLessEqual(life[1], length)


if __name__ == "__main__":
    unittest.main()
