"""Stretches and deeds (4)."""

import random
import unittest

from tests.samples import ODD, WORDS, named, some_stretch, swapped
from widerows.deeds import KINDS, is_stretch, named_by

EACH = (
    ("number", -5), ("plus", 0, 1), ("minus", 1, 0), ("times", 2, 2), ("less", 3, 1), ("pick", 0, 1, 2),
    ("share", 0, 1), ("read", 2, -4), ("write", 0, 9, 1), ("keep", 1, 0), ("fetch", 3),
)
GOOD = (2, EACH, (0, 1, 2, 9, 12, 12))


def whole(thing):
    return type(thing) is int


def stretch_slowly(thing):
    """Whether a thing is a stretch, with a set of all worths that may be named; of few givens."""
    if type(thing) is not tuple or len(thing) != 3 or not whole(thing[0]) or thing[0] < 0:
        return False
    givens, deeds, outs = thing
    if type(deeds) is not tuple or type(outs) is not tuple:
        return False
    signs = dict(zip(WORDS, "n ww ww ww ww www ww wn wnw ws s".split()))
    known = [True] * givens
    for deed in deeds:
        if type(deed) is not tuple or not deed or type(deed[0]) is not str or deed[0] not in signs:
            return False
        if len(deed) - 1 != len(signs[deed[0]]) or not all(whole(part) for part in deed[1:]):
            return False
        for sign, part in zip(signs[deed[0]], deed[1:]):
            if sign == "s" and part < 0:
                return False
            if sign == "w" and not (0 <= part < len(known) and known[part]):
                return False
        known.append(deed[0] not in ("write", "keep"))
    return all(whole(out) and 0 <= out < len(known) and known[out] for out in outs)


class Kinds(unittest.TestCase):
    def test_order(self):
        self.assertEqual(KINDS, (
            "number", "plus", "minus", "times", "less", "pick", "share", "read", "write", "keep", "fetch"))
        self.assertIsInstance(KINDS, tuple)


class NamedBy(unittest.TestCase):
    def test_each_kind_in_order_without_numbers_and_spots(self):
        cases = {
            ("number", 7): (), ("plus", 4, 2): (4, 2), ("minus", 1, 3): (1, 3), ("times", 5, 6): (5, 6),
            ("less", 9, 8): (9, 8), ("pick", 3, 1, 2): (3, 1, 2), ("share", 2, 0): (2, 0), ("read", 4, 99): (4,),
            ("write", 6, 99, 5): (6, 5), ("keep", 3, 99): (3,), ("fetch", 99): (),
        }
        self.assertEqual(sorted(deed[0] for deed in cases), sorted(KINDS))
        for deed, worths in cases.items():
            self.assertEqual(named_by(deed), worths)
            self.assertIsInstance(named_by(deed), tuple)

    def test_twice_where_twice(self):
        cases = {
            ("plus", 4, 4): (4, 4), ("pick", 1, 2, 1): (1, 2, 1), ("pick", 3, 3, 3): (3, 3, 3),
            ("share", 0, 0): (0, 0), ("write", 2, 2, 2): (2, 2), ("read", 0, 0): (0,), ("keep", 1, 1): (1,),
        }
        for deed, worths in cases.items():
            self.assertEqual(named_by(deed), worths)

    def test_by_chance(self):
        rng = random.Random(4)
        for _ in range(200):
            for deed in some_stretch(rng)[1]:
                self.assertEqual(named_by(deed), tuple(named(deed)))


class IsStretch(unittest.TestCase):
    def yes(self, thing):
        self.assertIs(is_stretch(thing), True, repr(thing)[:200])

    def no(self, thing):
        self.assertIs(is_stretch(thing), False, repr(thing)[:200])

    def test_what_the_document_describes(self):
        self.yes(GOOD)
        self.yes((0, (), ()))
        self.yes((3, (), (2, 2, 0)))
        self.yes((0, (("number", 0),), (0,)))
        self.yes((1, (("write", 0, 0, 0), ("keep", 0, 0), ("plus", 0, 0)), (3, 0)))

    def test_beyond_the_bounds(self):
        big = 10 ** 40 - 1
        self.yes((big, (), (big - 1, 0)))
        self.yes((big, (("plus", big - 1, 0), ("read", big, -big), ("keep", big, big)), (big, big + 1)))
        self.yes((7, (), tuple(range(7))))
        self.yes((1, tuple(("times", k, 0) for k in range(4000)), (4000,)))
        self.yes((1, (("fetch", 10 ** 39),) * 6000, ()))
        self.yes((1, (), (0,) * 19000))
        self.yes((0, (("number", -(10 ** 39)),), (0,) * 7))

    def test_wrong_wholes(self):
        for thing in ODD:
            self.no(thing)
        for givens in (-1, True, False, None, "2", (2,), [2], {}):
            self.no((givens, (), ()))
        for deeds in (None, [], list(EACH), {}, 0, "", "number"):
            self.no((2, deeds, ()))
        for outs in (None, [], [0], {}, 0, "", "0"):
            self.no((2, (), outs))
        self.no([2, (), ()])
        self.no((2, ()))
        self.no((2, (), (), ()))
        self.no(())

    def test_wrong_deeds(self):
        wrong = [None, True, 0, "number", (), ("",), ("sum", 0, 0), ("Number", 1), (0, 0), (None, 0), ([], 0), ({}, 0),
                 (("plus",), 0, 0), ["number", 1], {"number": 1}, ("number",), ("number", True), ("number", None),
                 ("number", "1"), ("number", (1,)), ("fetch", -1), ("fetch", False), ("keep", 0, -1), ("keep", 0, True)]
        for deed in EACH:
            wrong.append(deed + (0,))
            wrong.append(deed[:-1])
            wrong.append(list(deed))
            for at in range(1, len(deed)):
                for odd in (True, False, None, "0", (), [], {}, [0], (0,)):
                    wrong.append(deed[:at] + (odd,) + deed[at + 1:])
        for deed in wrong:
            self.no((4, (deed,), ()))
            self.no((4, (("number", 1), deed), ()))

    def test_worths_that_are_not_ahead(self):
        for word, many in (("plus", 2), ("minus", 2), ("times", 2), ("less", 2), ("pick", 3), ("share", 2)):
            for at in range(many):
                for worth in (-1, 3, 4, 10 ** 39, -(10 ** 39)):
                    parts = [0] * many
                    parts[at] = worth
                    self.no((2, (("number", 1), (word, *parts)), ()))
                parts[at] = 2
                self.yes((2, (("number", 1), (word, *parts)), ()))
        for worth in (-1, 2, 3):
            self.no((2, (("read", worth, 0),), ()))
            self.no((2, (("write", worth, 0, 0),), ()))
            self.no((2, (("write", 0, 0, worth),), ()))
            self.no((2, (("keep", worth, 0),), ()))
            self.no((2, (), (worth,)))
            self.no((2, (), (0, worth, 1)))
        self.no((2, (("number", 1),), (3,)))
        self.yes((2, (("number", 1),), (2,)))

    def test_numbers_and_spots_may_be_anything_from_their_least_on(self):
        for number in (-(10 ** 39), -1, 0, 1, 10 ** 39):
            self.yes((1, (("number", number), ("read", 0, number), ("write", 0, number, 0)), ()))
        self.yes((1, (("keep", 0, 0), ("fetch", 0), ("keep", 0, 10 ** 39)), ()))

    def test_writes_and_keeps_are_named_by_nobody(self):
        for deed in (("write", 0, 0, 0), ("keep", 0, 0)):
            self.yes((1, (deed,), ()))
            self.no((1, (deed,), (1,)))
            self.no((1, (deed,), (0, 1)))
            for naming in (("plus", 1, 0), ("minus", 0, 1), ("times", 1, 1), ("less", 0, 1), ("pick", 0, 0, 1),
                           ("share", 1, 0), ("read", 1, 0), ("write", 1, 0, 0), ("write", 0, 0, 1), ("keep", 1, 0)):
                self.no((1, (deed, naming), ()))
                self.no((1, (deed, ("number", 1), naming), ()))
            self.yes((1, (deed, ("number", 1), ("read", 0, 1)), (2, 3)))

    def test_truths_where_whole_numbers_are_asked(self):
        self.no((1, (), (False,)))
        self.no((2, (), (0, True)))

    def test_by_chance_against_the_slow_one(self):
        rng = random.Random(41)
        told = {True: 0, False: 0}
        for _ in range(4000):
            thing = some_stretch(rng, most=5)
            self.yes(thing)
            for _ in range(rng.randint(1, 2)):
                thing = swapped(thing, rng, ODD[:30])
            if isinstance(thing, tuple) and thing and thing[0] == 10 ** 39:
                continue
            slow = stretch_slowly(thing)
            self.assertIs(is_stretch(thing), slow, thing)
            told[slow] += 1
        self.assertGreater(min(told.values()), 300)
