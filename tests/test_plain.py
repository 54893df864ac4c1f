"""A stretch run plainly (4, 5)."""

import random
import unittest

from tests.samples import run_one_by_one, some_begin, some_stretch
from widerows.plain import plain_run
from widerows.stores import is_store


class PlainRun(unittest.TestCase):
    def comes_to(self, deed, worths, worth, store=()):
        """One deed behind as many givens as worths comes to this worth."""
        stretch = (len(worths), (deed,), (len(worths),))
        self.assertEqual(plain_run(stretch, (worths, store)), ("ended", (worth,), store))

    def test_reckoned_kinds(self):
        self.comes_to(("number", -7), (), -7)
        self.comes_to(("plus", 0, 1), (3, -8), -5)
        self.comes_to(("minus", 0, 1), (3, -8), 11)
        self.comes_to(("minus", 1, 0), (3, -8), -11)
        self.comes_to(("times", 0, 1), (3, -8), -24)
        self.comes_to(("times", 0, 0), (10 ** 6, 1), 10 ** 12)

    def test_less(self):
        for a, b, worth in ((1, 2, 1), (2, 2, 0), (3, 2, 0), (-3, -2, 1), (-2, -3, 0)):
            self.comes_to(("less", 0, 1), (a, b), worth)

    def test_less_is_told_as_a_whole_number(self):
        for worths in ((1, 2), (2, 1)):
            told = plain_run((2, (("less", 0, 1),), (2,)), (worths, ()))[1][0]
            self.assertIs(type(told), int)

    def test_pick(self):
        for a, worth in ((1, 8), (-1, 8), (2, 8), (0, 9)):
            self.comes_to(("pick", 0, 1, 2), (a, 8, 9), worth)

    def test_share_as_python_reckons(self):
        for a, b in ((7, 2), (-7, 2), (7, -2), (-7, -2), (0, 5), (0, -5), (6, 3), (-6, 3), (1, 9), (-1, 9)):
            self.comes_to(("share", 0, 1), (a, b), a // b)
        self.comes_to(("share", 0, 1), (-7, 2), -4)
        self.comes_to(("share", 0, 1), (7, -2), -4)

    def test_read(self):
        store = ((-3, 5), (4, -6))
        for a, n, worth in ((0, -3, 5), (-3, 0, 5), (1, 3, -6), (0, 0, 0), (10, -6, -6), (-13, 10, 5)):
            self.comes_to(("read", 0, n), (a,), worth, store)

    def test_write_then_read(self):
        stretch = (2, (("write", 0, -4, 1), ("read", 0, -4), ("read", 0, -3)), (3, 4))
        self.assertEqual(plain_run(stretch, ((1, 9), ((-2, 3),))), ("ended", (9, 3), ((-3, 9), (-2, 3))))

    def test_write_nought_and_again(self):
        stretch = (2, (("write", 0, 0, 1), ("write", 0, 0, 0)), ())
        self.assertEqual(plain_run(stretch, ((0, 5), ((0, 7), (2, 1)))), ("ended", (), ((2, 1),)))
        self.assertEqual(plain_run(stretch, ((3, 5), ((0, 7),))), ("ended", (), ((0, 7), (3, 3))))

    def test_store_told_rises_without_noughts(self):
        writes = tuple(("write", 0, place, 1) for place in (5, -5, 0, 2))
        told = plain_run((2, writes, ()), ((0, 4), ((1, 1),)))
        self.assertEqual(told, ("ended", (), ((-5, 4), (0, 4), (1, 1), (2, 4), (5, 4))))
        self.assertEqual(plain_run((2, writes, ()), ((0, 0), ((1, 1), (2, 2))))[2], ((1, 1),))

    def test_shelf(self):
        stretch = (2, (("fetch", 0), ("keep", 0, 0), ("fetch", 0), ("fetch", 1), ("keep", 1, 0), ("fetch", 0)),
                   (2, 4, 5, 7))
        self.assertEqual(plain_run(stretch, ((6, 8), ((0, 3),))), ("ended", (6 * 0, 6, 0, 8), ((0, 3),)))
        self.assertEqual(plain_run((0, (("fetch", 10 ** 39),), (0,)), ((), ((0, 1),))), ("ended", (0,), ((0, 1),)))

    def test_shelf_and_store_are_two(self):
        stretch = (1, (("keep", 0, 0), ("read", 0, 0), ("write", 0, 1, 0), ("fetch", 1)), (2, 4))
        self.assertEqual(plain_run(stretch, ((0,), ((0, 3),))), ("ended", (3, 0), ((0, 3),)))

    def test_outs(self):
        self.assertEqual(plain_run((1, (("plus", 0, 0),), (1, 0, 1, 1)), ((4,), ())), ("ended", (8, 4, 8, 8), ()))
        self.assertEqual(plain_run((1, (("plus", 0, 0),), ()), ((4,), ())), ("ended", (), ()))
        self.assertEqual(plain_run((2, (), (1, 0)), ((4, 5), ((1, 1),))), ("ended", (5, 4), ((1, 1),)))
        self.assertEqual(plain_run((0, (), ()), ((), ())), ("ended", (), ()))

    def test_fault_tells_the_first_and_the_store_as_it_is_then(self):
        deeds = (("write", 0, 0, 0), ("share", 0, 1), ("write", 0, 1, 0), ("share", 1, 1), ("share", 0, 2))
        self.assertEqual(plain_run((2, deeds[:4], ()), ((3, 0), ((9, 9),))), ("fault", 1, ((3, 3), (9, 9))))
        self.assertEqual(plain_run((2, deeds[:4], ()), ((3, 1), ())), ("ended", (), ((3, 3), (4, 3))))
        late = (("write", 0, 0, 0), ("share", 0, 0), ("write", 0, 1, 0), ("share", 0, 1), ("write", 0, 2, 0))
        self.assertEqual(plain_run((2, late, ()), ((3, 0), ())), ("fault", 3, ((3, 3), (4, 3))))

    def test_nought_shared_by_nought_is_a_fault(self):
        self.assertEqual(plain_run((1, (("share", 0, 0),), (1,)), ((0,), ((1, 1),))), ("fault", 0, ((1, 1),)))

    def test_fault_where_a_write_put_nought(self):
        deeds = (("write", 0, 0, 1), ("share", 0, 1))
        self.assertEqual(plain_run((2, deeds, ()), ((3, 0), ((3, 7),))), ("fault", 1, ()))

    def test_nothing_handed_in_is_changed_and_told_again_the_same(self):
        rng = random.Random(9)
        for _ in range(100):
            stretch = some_stretch(rng)
            begin = some_begin(rng, stretch)
            before = repr((stretch, begin))
            once = plain_run(stretch, begin)
            self.assertEqual(plain_run(stretch, begin), once)
            self.assertEqual(repr((stretch, begin)), before)

    def test_by_chance_against_the_oracle(self):
        rng = random.Random(10)
        ends = {"ended": 0, "fault": 0}
        for _ in range(3000):
            stretch = some_stretch(rng, most=16)
            begin = some_begin(rng, stretch)
            told = plain_run(stretch, begin)
            self.assertEqual(told, run_one_by_one(stretch, begin)[0])
            self.assertIs(is_store(told[2]), True)
            ends[told[0]] += 1
        self.assertGreater(min(ends.values()), 200)
