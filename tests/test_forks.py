"""Forks, run plainly (18)."""

import random
import unittest

from tests.samples import ODD, WORDS, run_one_by_one, some_begin, some_stretch, swapped
from widerows.deeds import is_stretch
from widerows.forks import is_fork, plain_fork_run, side_of

SHELFLESS = WORDS[:9] + ("share", "write")
FAR = 10 ** 39

# Worths: 0 and 1 are given, 2 is a write's number, 3 is head's less; 4 and 5 are those of each side.
HEAD = (("write", 0, 0, 1), ("less", 0, 1))
YES = ((("plus", 0, 3), ("read", 4, 1)), (5, 4, 0))
NO = ((("share", 0, 1), ("write", 0, 5, 4)), (4, 3))
FORK = (2, HEAD, 3, YES, NO)


def some_fork(rng, most=6):
    """A fork by chance: a stretch parted behind some deed, and another side behind the same head."""
    whole = some_stretch(rng, 2 * most, SHELFLESS, givens=rng.randint(1, 3))
    givens, deeds, outs = whole
    at = rng.randint(0, min(most, len(deeds)))
    head = deeds[:at]
    worths = [worth for worth in range(givens + at) if worth < givens or head[worth - givens][0] != "write"]
    shift = some_stretch(rng, most, SHELFLESS, givens=givens)
    other = tuple(renumbered(deed, rng, worths) for deed in shift[1] if deed[0] != "number")
    sides = [(deeds[at:], outs), (other, tuple(rng.choice(worths) for _ in range(2)))]
    rng.shuffle(sides)
    return (givens, head, rng.choice(worths), sides[0], sides[1])


def renumbered(deed, rng, worths):
    """The deed with worths of head and givens for those that it names."""
    word, *parts = deed
    signs = {"read": "wn", "write": "wnw"}.get(word, "www")
    return (word,) + tuple(rng.choice(worths) if sign == "w" else part for part, sign in zip(parts, signs))


class IsFork(unittest.TestCase):
    def wrong(self, *fork):
        self.assertIs(is_fork(fork), False, fork)

    def test_forks(self):
        self.assertIs(is_fork(FORK), True)
        self.assertIs(is_fork((1, (), 0, ((), ()), ((), ()))), True)
        self.assertIs(is_fork((FAR, (), FAR - 1, ((), (0,)), ((("plus", 0, FAR - 1),), (FAR,)))), True)
        self.assertIs(is_fork((0, (("number", 1),), 0, ((), ()), ((("number", 2),), (0, 1)))), True)

    def test_givens_and_test(self):
        self.wrong(0, (), 0, ((), ()), ((), ()))
        for givens in (-1, True, None, "2", (), [], {}):
            self.wrong(givens, HEAD, 3, YES, NO)
        # The number of the write, of a side's worth, behind all, below 0, and no number.
        for test in (2, 4, 5, 6, FAR, -1, True, False, None, "3", (3,), [3], {}):
            self.wrong(2, HEAD, test, YES, NO)
        for test in (0, 1, 3):
            self.assertIs(is_fork((2, HEAD, test, YES, NO)), True)

    def test_heads(self):
        for head in (list(HEAD), None, 0, "head", {}, HEAD[:1] + (("less", 0, 2),), HEAD[:1] + (("less", 0, 4),),
                     HEAD + (("plus",),), (HEAD[0], list(HEAD[1])), (("keep", 0, 0), HEAD[1]), (("fetch", 0), HEAD[1]), ()):
            self.wrong(2, head, 3, YES, NO)
        self.wrong(2, HEAD[:1] + (("keep", 0, 0), HEAD[1]), 0, ((), ()), ((), ()))
        self.wrong(2, (("fetch", 0),), 0, ((), ()), ((), ()))
        self.assertIs(is_fork((2, (("number", 0),), 0, ((), ()), ((), ()))), True)

    def test_sides(self):
        deeds, outs = YES
        sides = (
            list(YES), (list(deeds), outs), (deeds, list(outs)), (deeds,), (deeds, outs, ()), None, 0, "yes", {}, (), (None, ()),
            ((), None), (deeds, 4), (deeds, (6,)), (deeds, (2,)), (deeds, (-1,)), (deeds, (True,)), (deeds, ("4",)),
            ((("plus", 0, 2),), ()), ((("plus", 0, 4),), ()), ((("plus", 0, 5), ("plus", 0, 0)), ()), ((("plus", 0),), ()),
            ((["plus", 0, 0],), ()), ((("keep", 0, 0),), ()), ((("fetch", 0),), ()), (deeds + (("fetch", 3),), outs),
            ((("write", 0, 0, 0),), (4,)), ("", ()), ("plus", ()), ({}, ()), (0, ()),
        )
        for side in sides:
            self.wrong(2, HEAD, 3, side, NO)
            self.wrong(2, HEAD, 3, YES, side)

    def test_a_side_names_no_worth_of_the_other(self):
        self.wrong(2, HEAD, 3, ((("number", 1),), ()), ((("plus", 4, 0),), ()))
        self.wrong(2, HEAD, 3, ((("number", 1),), ()), ((), (4,)))

    def test_shapes(self):
        for thing in (FORK[:4], FORK + ((),), list(FORK), (FORK,), FORK[1:], dict(enumerate(FORK)), None):
            self.assertIs(is_fork(thing), False)

    def test_anything(self):
        for thing in ODD:
            self.assertIs(is_fork(thing), False)
            for at in range(5):
                self.assertIsInstance(is_fork(FORK[:at] + (thing,) + FORK[at + 1:]), bool)
            empty = thing == ((), ())
            self.assertIs(is_fork((2, HEAD, 3, thing, NO)), empty)
            self.assertIs(is_fork((2, HEAD, 3, YES, thing)), empty)
            self.assertIs(is_fork((2, HEAD, 3, (thing, ()), NO)), thing == ())
            self.wrong(2, HEAD, 3, ((thing,), ()), NO)
            self.wrong(2, (thing,), 0, ((), ()), ((), ()))

    def test_swapped_parts(self):
        rng = random.Random(180)
        told = {True: 0, False: 0}
        for _ in range(4000):
            thing = swapped(FORK, rng, ODD[:36])
            truth = is_fork(thing)
            self.assertIsInstance(truth, bool)
            self.assertIs(truth, fork_slowly(thing), thing)
            told[truth] += 1
        self.assertGreater(min(told.values()), 200)

    def test_by_chance(self):
        rng = random.Random(181)
        for _ in range(300):
            self.assertIs(is_fork(some_fork(rng)), True)


def fork_slowly(thing):
    """As the words of 18 stand, each stretch asked by the checker of stretches."""
    if not isinstance(thing, tuple) or len(thing) != 5:
        return False
    givens, head, test, yes, no = thing
    for side in (yes, no):
        if not isinstance(side, tuple) or len(side) != 2 or not isinstance(head, tuple) or not isinstance(side[0], tuple):
            return False
        if not is_stretch((givens, head + side[0], side[1])):
            return False
        if any(deed[0] in ("keep", "fetch") for deed in head + side[0]):
            return False
    return is_stretch((givens, head, (test,)))


class SideOf(unittest.TestCase):
    def test_both(self):
        self.assertEqual(side_of(FORK, "yes"), (2, HEAD + YES[0], YES[1]))
        self.assertEqual(side_of(FORK, "no"), (2, HEAD + NO[0], NO[1]))

    def test_without_deeds(self):
        fork = (1, (), 0, ((), (0,)), ((), ()))
        self.assertEqual(side_of(fork, "yes"), (1, (), (0,)))
        self.assertEqual(side_of(fork, "no"), (1, (), ()))


class PlainForkRun(unittest.TestCase):
    def test_yes_and_no(self):
        self.assertEqual(plain_fork_run(FORK, ((2, 9), ((4, 7),))), ("ended", "yes", (7, 3, 2), ((2, 9), (4, 7))))
        self.assertEqual(plain_fork_run(FORK, ((9, 2), ())), ("ended", "no", (4, 0), ((9, 2), (14, 4))))

    def test_any_number_but_0_is_yes(self):
        fork = (1, (), 0, ((), ()), ((), (0,)))
        for worth in (1, -1, 2, -FAR, FAR):
            self.assertEqual(plain_fork_run(fork, ((worth,), ())), ("ended", "yes", (), ()))
        self.assertEqual(plain_fork_run(fork, ((0,), ((3, 3),))), ("ended", "no", (0,), ((3, 3),)))

    def test_the_test_is_asked_behind_head(self):
        fork = (1, (("write", 0, 0, 0), ("read", 0, 0), ("minus", 2, 2)), 2, ((), (2,)), ((), (3,)))
        self.assertEqual(plain_fork_run(fork, ((4,), ())), ("ended", "yes", (4,), ((4, 4),)))
        self.assertEqual(plain_fork_run(fork[:2] + (3,) + fork[3:], ((4,), ())), ("ended", "no", (0,), ((4, 4),)))

    def test_faults(self):
        self.assertEqual(plain_fork_run(FORK, ((9, 0), ())), ("fault", "no", 0, ()))
        head = (("write", 0, 0, 1), ("share", 0, 1), ("write", 0, 1, 1))
        side = ((("number", 0), ("write", 0, 2, 0), ("share", 0, 5)), ())
        fork = (2, head, 1, side, ((("share", 0, 1),), ()))
        self.assertEqual(plain_fork_run(fork, ((3, 0), ((3, 8),))), ("fault", "head", 1, ()))
        self.assertEqual(plain_fork_run(fork, ((3, 4), ())), ("fault", "yes", 2, ((3, 4), (4, 4), (5, 3))))

    def test_only_one_side_is_done(self):
        fork = (1, (), 0, ((("write", 0, 0, 0),), ()), ((("share", 0, 0),), ()))
        self.assertEqual(plain_fork_run(fork, ((4,), ())), ("ended", "yes", (), ((4, 4),)))
        self.assertEqual(plain_fork_run(fork, ((0,), ())), ("fault", "no", 0, ()))

    def test_by_chance(self):
        rng = random.Random(182)
        seen = {}
        for _ in range(1500):
            fork = some_fork(rng)
            givens, head, test, yes, no = fork
            begin = some_begin(rng, (givens, (), ()))
            told = plain_fork_run(fork, begin)
            end, worths = run_one_by_one((givens, head, ()), begin)
            if end[0] == "fault":
                expected = ("fault", "head") + end[1:]
            else:
                side = "yes" if worths[test] else "no"
                deeds, outs = yes if side == "yes" else no
                end = run_one_by_one((givens, head + deeds, outs), begin)[0]
                expected = (end[0], side) + ((end[1] - len(head),) if end[0] == "fault" else (end[1],)) + end[2:]
            self.assertEqual(told, expected)
            self.assertEqual(plain_fork_run(fork, begin), told)
            seen[told[:2]] = seen.get(told[:2], 0) + 1
        self.assertEqual(len(seen), 5)
        self.assertGreater(min(seen.values()), 20)


if __name__ == "__main__":
    unittest.main()
