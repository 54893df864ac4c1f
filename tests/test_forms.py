"""Forms (8)."""

import random
import unittest

from tests.samples import ODD
from widerows.forms import form_alone, form_at, form_minus, form_plus, form_times, is_form

ONE = (3, ((0, 2), (2, -1), (5, 4)))
OTHER = (-8, ((1, 1), (2, 1), (5, -3)))


def some_form(rng):
    worths = sorted(rng.sample(range(6), rng.randrange(5)))
    return (rng.randint(-5, 5), tuple((worth, rng.choice((-3, -2, -1, 1, 2, 3))) for worth in worths))


class Forms(unittest.TestCase):
    def test_plus(self):
        self.assertEqual(form_plus(ONE, OTHER), (-5, ((0, 2), (1, 1), (5, 1))))
        self.assertEqual(form_plus(OTHER, ONE), (-5, ((0, 2), (1, 1), (5, 1))))
        self.assertEqual(form_plus((1, ()), (2, ())), (3, ()))
        self.assertEqual(form_plus((1, ((9, 1),)), (2, ((4, 1),))), (3, ((4, 1), (9, 1))))
        self.assertEqual(form_plus(ONE, (0, ())), ONE)

    def test_minus(self):
        self.assertEqual(form_minus(ONE, OTHER), (11, ((0, 2), (1, -1), (2, -2), (5, 7))))
        self.assertEqual(form_minus(OTHER, ONE), (-11, ((0, -2), (1, 1), (2, 2), (5, -7))))
        self.assertEqual(form_minus(ONE, ONE), (0, ()))
        self.assertEqual(form_minus((1, ((3, 2),)), (5, ((3, 2),))), (-4, ()))

    def test_times(self):
        self.assertEqual(form_times(ONE, 3), (9, ((0, 6), (2, -3), (5, 12))))
        self.assertEqual(form_times(ONE, -1), (-3, ((0, -2), (2, 1), (5, -4))))
        self.assertEqual(form_times(ONE, 1), ONE)
        self.assertEqual(form_times(ONE, 0), (0, ()))
        self.assertEqual(form_times((0, ()), 7), (0, ()))
        self.assertEqual(form_times((2, ()), 10 ** 39), (2 * 10 ** 39, ()))

    def test_at(self):
        self.assertEqual(form_at((7, ()), ()), 7)
        self.assertEqual(form_at(ONE, (10, 99, 100, 99, 99, 1000)), 3 + 20 - 100 + 4000)
        self.assertEqual(form_at((0, ((2, 1),)), (4, 5, 6)), 6)
        self.assertEqual(form_at((-1, ((0, -1),)), (10 ** 39,)), -1 - 10 ** 39)

    def test_alone(self):
        self.assertEqual(form_alone(4), (0, ((4, 1),)))

    def test_by_chance(self):
        rng = random.Random(80)
        for _ in range(1000):
            one, other, number = some_form(rng), some_form(rng), rng.randint(-3, 3)
            worths = tuple(rng.randint(-9, 9) for _ in range(6))
            a, b = form_at(one, worths), form_at(other, worths)
            for form, comes in ((form_plus(one, other), a + b), (form_minus(one, other), a - b),
                                (form_times(one, number), a * number)):
                self.assertTrue(is_form(form), form)
                self.assertEqual(form_at(form, worths), comes)

    def test_is_form(self):
        for thing in ((0, ()), ONE, OTHER, (10 ** 39, ((10 ** 39, -(10 ** 39)),)), (1, ((-1, 1),))):
            self.assertIs(is_form(thing), True)
        for thing in ODD + ((True, ()), (0, []), [0, ()], (0, ((0, 0),)), (0, ((1, 1), (0, 1))), (0, ((1, 1), (1, 1))),
                            (0, ([0, 1],)), (0, ((0, True),)), (0, ((False, 1),)), (0, ((0, 1, 1),)), (0, ((0,),)),
                            (0, (), ()), (0, ((0, "1"),)), (None, ()), (0, ((0, 1), None))):
            self.assertIs(is_form(thing), False, repr(thing)[:80])
