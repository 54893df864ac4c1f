"""The reach of a deed (12)."""

import random
import unittest

from tests.samples import MEETING, MIXED, WIDE, machine_with, some_machine, some_stretch
from tests.slow import pairs_of, reaches_slowly
from widerows.reach import reaches
from widerows.unlike import all_papers


class Reaches(unittest.TestCase):
    def test_no_deeds(self):
        self.assertEqual(reaches(MIXED, (0, (), ())), ())
        self.assertEqual(reaches(MIXED, (3, (), (0, 2)), ()), ())

    def test_a_chain(self):
        deeds = (("times", 0, 0), ("plus", 1, 1), ("times", 2, 2), ("number", 4))
        machine = machine_with(times=("u", 1, 5), plus=("u", 3, 2), number=("u", 6, 4))
        self.assertEqual(reaches(machine, (1, deeds, ())), (5 + 2 + 5, 2 + 5, 5, 4))

    def test_nobody_waits(self):
        for comes in range(1, 7):
            deeds = (("number", 1), ("less", 0, 0), ("read", 0, 3), ("fetch", 2))
            self.assertEqual(reaches(machine_with(comes=comes), (1, deeds, (0,))), (comes,) * 4)

    def test_outs_wait_for_nothing(self):
        deeds = (("number", 1), ("number", 2))
        self.assertEqual(reaches(WIDE, (0, deeds, (0, 1))), reaches(WIDE, (0, deeds, ())))

    def test_the_greatest_of_several_ways(self):
        machine = machine_with(times=("u", 1, 6), plus=("u", 1, 2), minus=("u", 1, 3))
        deeds = (("minus", 0, 0), ("plus", 1, 0), ("times", 1, 0), ("plus", 2, 3), ("minus", 2, 0))
        self.assertEqual(reaches(machine, (1, deeds, ())), (3 + 6 + 2, 2 + 3, 6 + 2, 2, 3))

    def test_waits_of_0(self):
        machine = machine_with(write=("u", 1, 2), read=("u", 1, 5), share=("u", 1, 6))
        self.assertEqual(reaches(machine, (1, (("write", 0, 0, 0), ("read", 0, 0)), ())), (5, 5))
        self.assertEqual(reaches(machine, (1, (("read", 0, 0), ("write", 0, 0, 0)), ())), (5, 2))
        self.assertEqual(reaches(machine, (1, (("share", 0, 0), ("write", 0, 0, 0)), ())), (6, 2))
        self.assertEqual(reaches(machine, (1, (("write", 0, 0, 0), ("share", 0, 0)), ())), (6, 6))
        keeping = machine_with(keep=("u", 1, 1), fetch=("u", 1, 3), plus=("u", 1, 4))
        deeds = (("keep", 0, 1), ("fetch", 1), ("plus", 2, 2), ("fetch", 2))
        self.assertEqual(reaches(keeping, (1, deeds, ())), (3 + 4, 3 + 4, 4, 3))

    def test_papers(self):
        machine = machine_with(write=("u", 1, 1), read=("u", 1, 6))
        stretch = (1, (("write", 0, 0, 0), ("read", 0, 1)), ())
        papers = all_papers(stretch)
        self.assertEqual(len(papers), 1)
        self.assertEqual(reaches(machine, stretch), (6, 6))
        self.assertEqual(reaches(machine, stretch, None), (6, 6))
        self.assertEqual(reaches(machine, stretch, ()), (6, 6))
        self.assertEqual(reaches(machine, stretch, papers), (1, 6))

    def test_many_by_chance(self):
        rng = random.Random(12)
        for _ in range(300):
            machine, stretch = some_machine(rng), some_stretch(rng, 9, MEETING)
            papers = all_papers(stretch)
            told = reaches(machine, stretch)
            self.assertIsInstance(told, tuple)
            self.assertEqual(told, reaches_slowly(machine, stretch))
            self.assertEqual(reaches(machine, stretch), told)
            self.assertEqual(reaches(machine, stretch, papers), reaches_slowly(machine, stretch, pairs_of(papers)))

    def test_24_deeds_that_all_wait(self):
        deeds = (("write", 0, 0, 0),) * 24
        self.assertEqual(reaches(machine_with(comes=3), (1, deeds, ())), (3,) * 24)
        sums = tuple(("plus", k, k) for k in range(24))
        self.assertEqual(reaches(machine_with(comes=6), (1, sums, ())), tuple(6 * (24 - k) for k in range(24)))


if __name__ == "__main__":
    unittest.main()
