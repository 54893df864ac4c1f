"""Machines (6)."""

import random
import unittest

from tests.samples import MIXED, ODD, WIDE, WORDS, some_machine, swapped
from widerows.machines import is_machine, many_of, work_of

DEEDS = (
    ("number", 0), ("plus", 0, 0), ("minus", 0, 0), ("times", 0, 0), ("less", 0, 0), ("pick", 0, 0, 0),
    ("share", 0, 0), ("read", 0, 0), ("write", 0, 0, 0), ("keep", 0, 0), ("fetch", 0),
)


def whole_within(thing, least, most):
    return type(thing) is int and least <= thing <= most


def name_slowly(thing):
    return type(thing) is str and 1 <= len(thing) <= 8 and all(sign in "abcdefghijklmnopqrstuvwxyz" for sign in thing)


def machine_slowly(thing):
    if type(thing) is not tuple or len(thing) != 2 or any(type(part) is not tuple for part in thing):
        return False
    units, works = thing
    for unit in units:
        if type(unit) is not tuple or len(unit) != 2 or not name_slowly(unit[0]) or not whole_within(unit[1], 1, 6):
            return False
    names = [unit[0] for unit in units]
    if not units or len(works) != 11 or any(names.count(name) > 1 for name in names):
        return False
    for work in works:
        if type(work) is not tuple or len(work) != 3 or work[0] not in names:
            return False
        if not whole_within(work[1], 1, 6) or not whole_within(work[2], 1, 6):
            return False
    return True


class IsMachine(unittest.TestCase):
    def yes(self, thing):
        self.assertIs(is_machine(thing), True, repr(thing)[:200])

    def no(self, thing):
        self.assertIs(is_machine(thing), False, repr(thing)[:200])

    def test_what_the_document_describes(self):
        self.yes(MIXED)
        self.yes(WIDE)
        self.yes(((("a", 1),), (("a", 1, 1),) * 11))
        self.yes(((("abcdefgh", 6), ("z", 1)), (("z", 6, 6),) * 11))

    def test_more_units_than_the_bounds(self):
        letters = "abcdefghijklmnopqrstuvwxyz"
        units = tuple((one + other, 1) for one in letters for other in letters)
        self.yes((units, (("zz", 1, 1),) * 11))
        many = tuple((one + other + third, 6) for one in letters for other in letters for third in letters[:8])
        self.yes((many, (("aaa", 1, 1),) * 11))
        self.no((many + many[:1], (("aaa", 1, 1),) * 11))

    def test_wrong_wholes(self):
        for thing in ODD:
            self.no(thing)
        units, works = MIXED
        for thing in ([units, works], (units,), (units, works, ()), (list(units), works), (units, list(works)),
                      (works, units), ((), works), (None, works), (units, None), (units, ()), (dict(units), works),
                      (units, works[:10]), (units, works + works[:1]), (units, "w" * 11), ("u", works)):
            self.no(thing)

    def test_wrong_units(self):
        works = (("u", 1, 1),) * 11
        for unit in (None, "u", (), ("u",), ("v", 1, 1), ["v", 1], ("", 1), ("ninechars", 1), ("V", 1), ("v1", 1), ("v ", 1),
                     ("v_", 1), ("v\n", 1), (" v", 1), ("{", 1), ("`", 1), ("a" * 8000, 1), (b"v", 1), (None, 1), (0, 1),
                     (("v",), 1), (["v"], 1), ({}, 1), ("v", 0), ("v", 7), ("v", -1), ("v", True), ("v", None), ("v", "1"),
                     ("v", (1,)), ("v", 10 ** 39), ("u", 1), ("u", 2), (True, 1)):
            self.no(((("u", 1), unit), works))
            self.no(((unit, ("u", 1)), works))
        self.yes(((("u", 1), ("v", 6)), works))

    def test_wrong_works(self):
        units = (("u", 1), ("v", 1))
        for at in range(11):
            for work in (None, "u", (), ("u", 1), ("u", 1, 1, 1), ["u", 1, 1], ("w", 1, 1), ("", 1, 1), (None, 1, 1),
                         (["u"], 1, 1), ({}, 1, 1), (("u",), 1, 1), (0, 1, 1), ("u", 0, 1), ("u", 7, 1), ("u", 1, 0),
                         ("u", 1, 7), ("u", True, 1), ("u", 1, True), ("u", None, 1), ("u", 1, "1"), ("u", -1, 1),
                         ("u", 1, -1), ("u", [], 1), ("u", 1, {}), ("u", 1, (1,)), ("u" * 8000, 1, 1)):
                works = [("v", 6, 6)] * 11
                works[at] = work
                self.no((units, tuple(works)))
            works[at] = ("u", 6, 1)
            self.yes((units, tuple(works)))

    def test_by_chance_against_the_slow_one(self):
        rng = random.Random(7)
        told = {True: 0, False: 0}
        for _ in range(4000):
            thing = some_machine(rng)
            self.yes(thing)
            thing = swapped(thing, rng, ODD[:30] + ("a", "bc", "z"))
            slow = machine_slowly(thing)
            self.assertIs(is_machine(thing), slow, thing)
            told[slow] += 1
        self.assertGreater(min(told.values()), 200)


class WorkAndMany(unittest.TestCase):
    def test_each_kind(self):
        self.assertEqual([deed[0] for deed in DEEDS], list(WORDS))
        for deed, work in zip(DEEDS, MIXED[1]):
            self.assertEqual(work_of(MIXED, deed), work)

    def test_each_unit(self):
        for name, many in MIXED[0]:
            self.assertEqual(many_of(MIXED, name), many)
        self.assertEqual([many_of(MIXED, name) for name in ("shelf", "mem", "mul", "alu")], [3, 1, 1, 2])
