"""Stores (5)."""

import random
import unittest

from tests.samples import ODD, some_begin, swapped
from widerows.stores import is_store, store_at, store_with


def store_slowly(thing):
    if type(thing) is not tuple:
        return False
    for at, pair in enumerate(thing):
        if type(pair) is not tuple or len(pair) != 2 or [type(part) for part in pair] != [int, int] or not pair[1]:
            return False
        if at and not thing[at - 1][0] < pair[0]:
            return False
    return True


class IsStore(unittest.TestCase):
    def test_what_the_document_describes(self):
        for thing in ((), ((0, 1),), ((-5, -1), (0, 3), (7, 3)), ((10 ** 39, -(10 ** 39)),),
                      tuple((place, 1) for place in range(-3000, 3000))):
            self.assertIs(is_store(thing), True)

    def test_what_it_does_not(self):
        wrong = [
            ((0, 0),), ((0, 1), (1, 0)), ((1, 1), (0, 1)), ((0, 1), (0, 1)), ((0, 1), (0, 2)), ((0, 1), (2, 1), (1, 1)),
            [(0, 1)], ([0, 1],), ((0, 1), [1, 1]), ((0,),), ((0, 1, 2),), ((),), (0, 1), ((True, 1),), ((0, True),),
            ((False, 1),), ((0, False),), ((None, 1),), ((0, None),), (("0", 1),), ((0, "1"),), (([], 1),), ((0, {}),),
            ((0, (1,)),), {0: 1}, ((0, 1), None), "ab", ("ab",), (((0, 1),),), (((0,), 1), ((1,), 1)),
        ]
        for thing in wrong:
            self.assertIs(is_store(thing), False, thing)
        for thing in ODD:
            self.assertIs(is_store(thing), thing == () and isinstance(thing, tuple), repr(thing)[:80])

    def test_by_chance_against_the_slow_one(self):
        rng = random.Random(5)
        for _ in range(2000):
            thing = some_begin(rng, (0, (), ()))[1]
            self.assertIs(is_store(thing), True)
            thing = swapped(thing, rng, ODD[:30])
            self.assertIs(is_store(thing), store_slowly(thing), thing)


class AtAndWith(unittest.TestCase):
    store = ((-5, 2), (0, -3), (7, 10 ** 39))

    def test_at(self):
        for place, number in ((-5, 2), (0, -3), (7, 10 ** 39), (-6, 0), (-4, 0), (1, 0), (8, 0), (10 ** 39, 0)):
            self.assertEqual(store_at(self.store, place), number)
        self.assertEqual(store_at((), 0), 0)

    def test_with(self):
        cases = (
            (-9, 4, ((-9, 4), (-5, 2), (0, -3), (7, 10 ** 39))), (-5, 4, ((-5, 4), (0, -3), (7, 10 ** 39))),
            (-2, 4, ((-5, 2), (-2, 4), (0, -3), (7, 10 ** 39))), (0, -4, ((-5, 2), (0, -4), (7, 10 ** 39))),
            (9, 4, ((-5, 2), (0, -3), (7, 10 ** 39), (9, 4))),
        )
        for place, number, told in cases:
            self.assertEqual(store_with(self.store, place, number), told)
        self.assertEqual(store_with((), -1, 6), ((-1, 6),))

    def test_nought_put(self):
        self.assertEqual(store_with(self.store, 0, 0), ((-5, 2), (7, 10 ** 39)))
        self.assertEqual(store_with(self.store, -5, 0), ((0, -3), (7, 10 ** 39)))
        self.assertEqual(store_with(self.store, 3, 0), self.store)
        self.assertEqual(store_with(((1, 1),), 1, 0), ())
        self.assertEqual(store_with((), 0, 0), ())

    def test_what_was_handed_in_stays(self):
        before = ((-5, 2), (0, -3), (7, 10 ** 39))
        store_with(self.store, 0, 8)
        store_with(self.store, 7, 0)
        store_at(self.store, 3)
        self.assertEqual(self.store, before)

    def test_by_chance(self):
        rng = random.Random(6)
        for _ in range(500):
            store = some_begin(rng, (0, (), ()))[1]
            place, number = rng.randint(-8, 8), rng.randint(-2, 2)
            told = store_with(store, place, number)
            self.assertIs(is_store(told), True)
            for at in range(-9, 10):
                self.assertEqual(store_at(told, at), number if at == place else store_at(store, at))
