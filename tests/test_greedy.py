"""Rows laid at once (12)."""

import random
import unittest

from tests.samples import MEETING, MIXED, WIDE, machine_with, rows_hold_slowly, some_machine, some_stretch
from tests.slow import laid_slowly, pairs_of
from widerows.greedy import laid
from widerows.reach import reaches
from widerows.rows import rows_hold
from widerows.unlike import all_papers

ONE = (("u", 1),)


class Laid(unittest.TestCase):
    def test_no_deeds(self):
        self.assertEqual(laid(MIXED, (0, (), ())), ())
        self.assertEqual(laid(MIXED, (2, (), (1,)), ()), ())

    def test_a_chain(self):
        machine = machine_with(times=("u", 1, 5), plus=("u", 1, 2))
        deeds = (("times", 0, 0), ("plus", 1, 1), ("times", 2, 2), ("plus", 0, 0))
        self.assertEqual(laid(machine, (1, deeds, ())), (0, 5, 7, 0))

    def test_the_greatest_reach_first(self):
        machine = machine_with(ONE, plus=("u", 1, 3))
        deeds = (("number", 1), ("number", 2), ("plus", 0, 2), ("plus", 3, 3))
        stretch = (1, deeds, ())
        self.assertEqual(reaches(machine, stretch), (1, 7, 6, 3))
        self.assertEqual(laid(machine, stretch), (2, 0, 1, 4))

    def test_of_these_the_least_number(self):
        self.assertEqual(laid(machine_with(ONE), (0, (("number", 1),) * 5, ())), (0, 1, 2, 3, 4))
        two = machine_with((("u", 2),))
        self.assertEqual(laid(two, (0, (("number", 1),) * 5, ())), (0, 0, 1, 1, 2))

    def test_a_lesser_reach_goes_first_where_the_greater_must_wait(self):
        machine = machine_with(ONE, comes=4)
        deeds = (("number", 1), ("plus", 0, 0), ("plus", 1, 1), ("number", 2))
        self.assertEqual(laid(machine, (0, deeds, ())), (0, 4, 8, 1))

    def test_0_is_waited_in_the_same_row(self):
        deeds = (("write", 0, 0, 1), ("read", 0, 0), ("write", 1, 0, 0), ("share", 0, 1))
        self.assertEqual(laid(machine_with(comes=3), (2, deeds, ())), (0, 0, 0, 0))
        self.assertEqual(laid(machine_with((("u", 3),)), (2, deeds, ())), (0, 0, 0, 1))
        # The read reaches farther than the write that it waits for has rows of its own, but the write goes first.
        self.assertEqual(laid(machine_with(ONE, read=("u", 1, 6)), (2, deeds, ())), (0, 1, 2, 3))

    def test_units_held_over_several_rows(self):
        for holds in range(1, 7):
            machine = machine_with(ONE, holds=holds)
            self.assertEqual(laid(machine, (0, (("number", 1),) * 4, ())), (0, holds, 2 * holds, 3 * holds))
        machine = machine_with((("u", 2),), number=("u", 3, 1), fetch=("u", 1, 1))
        deeds = (("number", 1), ("fetch", 1), ("fetch", 2), ("number", 2), ("fetch", 3))
        self.assertEqual(laid(machine, (0, deeds, ())), (0, 0, 1, 2, 3))

    def test_units_of_unlike_names_beside_one_another(self):
        machine = machine_with((("u", 1), ("v", 1)), number=("v", 2, 1))
        deeds = (("number", 1), ("number", 1), ("plus", 0, 0), ("plus", 0, 0))
        self.assertEqual(laid(machine, (1, deeds, ())), (0, 2, 0, 1))

    def test_papers(self):
        machine = machine_with(ONE, read=("u", 1, 6))
        stretch = (1, (("write", 0, 0, 0), ("read", 0, 1)), ())
        papers = all_papers(stretch)
        self.assertEqual(laid(machine, stretch), (0, 1))
        self.assertEqual(laid(machine, stretch, None), (0, 1))
        self.assertEqual(laid(machine, stretch, ()), (0, 1))
        self.assertEqual(laid(machine, stretch, papers), (1, 0))

    def test_many_by_chance(self):
        rng = random.Random(120)
        for _ in range(400):
            machine, stretch = some_machine(rng), some_stretch(rng, 10, MEETING)
            papers = all_papers(stretch)
            rows = laid(machine, stretch)
            self.assertIsInstance(rows, tuple)
            self.assertEqual(rows, laid_slowly(machine, stretch))
            self.assertTrue(rows_hold_slowly(machine, stretch, rows))
            self.assertEqual(laid(machine, stretch), rows)
            pairs = pairs_of(papers)
            self.assertEqual(laid(machine, stretch, papers), laid_slowly(machine, stretch, pairs))
            self.assertIs(rows_hold(machine, stretch, laid(machine, stretch, papers), papers), True)

    def test_24_deeds(self):
        rng = random.Random(121)
        for _ in range(60):
            machine, stretch = some_machine(rng), some_stretch(rng, 24, MEETING)
            self.assertIs(rows_hold(machine, stretch, laid(machine, stretch)), True)
        chain = (1, tuple(("plus", k, k) for k in range(24)), ())
        self.assertEqual(laid(machine_with(comes=6), chain), tuple(range(0, 144, 6)))
        self.assertEqual(laid(WIDE, (1, (("write", 0, 0, 0),) * 24, ())), tuple(k // 6 for k in range(24)))


if __name__ == "__main__":
    unittest.main()
