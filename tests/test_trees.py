"""Trees that no rows have at most a length (13)."""

import random
import time
import unittest

from tests.samples import MEETING, ODD, WIDE, machine_with, nested, some_machine, some_stretch, swapped, waits_slowly
from tests.slow import has_rows, narrowed_slowly, pairs_of, tree_slowly, works_of
from widerows.trees import tree_holds
from widerows.unlike import all_papers

ONE = (("u", 1),)
FAR = 10 ** 39
WAITS = ("waits",)


def some_crowd(rng, machine, stretch, narrow):
    """A crowd by windows where a small one is found, or else one by chance."""
    works = works_of(machine, stretch)
    for name, many in machine[0]:
        for start in range(6):
            for behind in range(start + 1, 12):
                held = sum(
                    min(max(0, min(row + holds, behind) - max(row, start)) for row in window)
                    for (unit, holds, _), window in zip(works, narrow) if unit == name)
                if held > many * (behind - start):
                    return ("crowd", name, start, behind)
    return None


def some_tree(rng, machine, stretch, waits, windows, deep):
    """A tree by chance that often holds: knots are looked for where they may be."""
    narrow = narrowed_slowly(waits, windows)
    count = len(windows)
    if deep > 0 and count and rng.random() < 0.2:
        narrow, chosen = windows, True
    else:
        chosen = False
    if narrow is None:
        start = rng.randint(-3, 9)
        return rng.choice((WAITS, WAITS, ("crowd", machine[0][0][0], start, start + rng.randint(0, 3))))
    crowd = None if chosen else some_crowd(rng, machine, stretch, narrow)
    if crowd:
        return crowd
    if deep <= 0 or not count:
        return rng.choice((WAITS, ("crowd", machine[0][0][0], 0, 2)))
    k = rng.randrange(count)
    first, last = narrow[k]
    row = rng.randint(first - 1, max(first, last) + 2)
    left, right = list(windows), list(windows)
    left[k] = (windows[k][0], min(windows[k][1], row - 1))
    right[k] = (max(windows[k][0], row), windows[k][1])
    one = some_tree(rng, machine, stretch, waits, left, deep - 1)
    return ("split", k, row, one, some_tree(rng, machine, stretch, waits, right, deep - 1))


class Knots(unittest.TestCase):
    def just(self, machine, deeds, length, tree, papers=None):
        """The tree holds for the length and each lesser one, and for no greater one."""
        stretch = (2, tuple(deeds), ())
        for other in (length, length - 1, length - 5, 0, -1, -1000000):
            self.assertIs(tree_holds(machine, stretch, min(other, length), tree, papers), True, other)
        for other in (length + 1, length + 2, length + 9, 1000000):
            self.assertIs(tree_holds(machine, stretch, other, tree, papers), False, other)

    def test_waits_of_one_deed(self):
        for comes in range(1, 7):
            self.just(machine_with(comes=comes), (("number", 1),), comes - 1, WAITS)

    def test_waits_of_a_chain(self):
        machine = machine_with(times=("u", 1, 5), plus=("u", 1, 2))
        self.just(machine, (("times", 0, 0), ("plus", 2, 2), ("times", 3, 3)), 11, WAITS)

    def test_waits_of_the_longest(self):
        machine = machine_with(read=("u", 1, 6), share=("u", 1, 4))
        self.just(machine, (("number", 1), ("share", 0, 1), ("write", 0, 0, 0), ("read", 0, 0)), 5, WAITS)

    def test_a_crowd(self):
        for holds in range(1, 7):
            machine = machine_with(ONE, holds=holds)
            # Begun in the rows 0, holds and twice as many; the last one comes a row behind its own.
            length = 2 * holds
            self.just(machine, (("number", 1),) * 3, length, ("crowd", "u", 0, length - 1 + holds))
        for many in range(1, 7):
            machine = machine_with((("u", many), ("v", 1)))
            self.just(machine, (("number", 1),) * (2 * many + 1), 2, ("crowd", "u", 0, 2))

    def test_a_crowd_of_deeds_in_narrowed_windows(self):
        machine = machine_with(ONE, comes=2)
        deeds = (("number", 1),) + (("plus", 2, 2),) * 3 + (("pick", 3, 4, 5),)
        # The three in the middle are begun behind row 1 and two rows ahead of the last one.
        self.just(machine, deeds, 7, ("crowd", "u", 2, 4))

    def test_the_fewer_of_first_and_last_counts(self):
        machine = machine_with(ONE, number=("u", 4, 1), fetch=("u", 1, 1))
        stretch = (0, (("number", 1), ("fetch", 1), ("fetch", 2)), ())
        # By length 3 the number's window is 0 to 2: of the rows 0 to 3 it holds 4 at first, and 2 at last.
        self.assertIs(tree_holds(machine, stretch, 3, ("crowd", "u", 0, 3)), False)
        self.assertIs(tree_holds(machine, stretch, 3, ("crowd", "u", 1, 3)), False)
        self.assertIs(tree_holds(machine, stretch, 3, ("crowd", "u", 0, 6)), False)
        two = (0, (("number", 1), ("number", 2)), ())
        # Both hold row 2 and row 3, wherever they are begun in the rows 0 to 2.
        self.assertIs(tree_holds(machine, two, 3, ("crowd", "u", 2, 4)), True)
        self.assertIs(tree_holds(machine, two, 3, ("crowd", "u", 2, 3)), True)
        self.assertIs(tree_holds(machine, two, 3, ("crowd", "u", 3, 4)), True)
        self.assertIs(tree_holds(machine, two, 3, ("crowd", "u", 1, 4)), True)
        self.assertIs(tree_holds(machine, two, 3, ("crowd", "u", 1, 3)), False)
        self.assertIs(tree_holds(machine, two, 3, ("crowd", "u", 0, 4)), False)
        self.assertIs(tree_holds(machine, two, 3, ("crowd", "u", 4, 5)), False)

    def test_only_deeds_of_the_unit_count(self):
        machine = machine_with((("u", 1), ("v", 1)), number=("v", 1, 1))
        stretch = (1, (("number", 1), ("number", 1), ("plus", 0, 0)), ())
        self.assertIs(tree_holds(machine, stretch, 1, ("crowd", "v", 0, 1)), True)
        self.assertIs(tree_holds(machine, stretch, 1, ("crowd", "u", 0, 1)), False)

    def test_a_crowd_of_far_too_many_rows(self):
        machine = machine_with(ONE, holds=3)
        stretch = (0, (("number", 1),) * 3, ())
        for start, behind in ((-FAR, FAR), (0, FAR), (-FAR, 3), (FAR, 2 * FAR)):
            self.assertIs(tree_holds(machine, stretch, 3, ("crowd", "u", start, behind)), False)
            self.assertIs(tree_holds(machine, stretch, 0, ("crowd", "u", start, behind)), True)
        self.assertIs(tree_holds(machine, stretch, FAR, ("crowd", "u", 0, FAR)), False)

    def test_a_crowd_where_a_first_is_behind_its_last(self):
        stretch = (0, (("number", 1),), ())
        for start, behind in ((0, 1), (-5, -4), (FAR, FAR + 1), (-FAR, FAR)):
            self.assertIs(tree_holds(WIDE, stretch, 0, ("crowd", "u", start, behind)), True)
            self.assertIs(tree_holds(WIDE, stretch, 1, ("crowd", "u", start, behind)), False)
        for start, behind in ((0, 0), (1, 0), (FAR, -FAR), (True, 3), (0, True), (False, 1), ("0", 1), (0, "1"),
                              (None, 1), (0, None), ((), 1), (0, []), (0, {})):
            self.assertIs(tree_holds(WIDE, stretch, 0, ("crowd", "u", start, behind)), False)
        for name in ("v", "", "U", "uu", None, 0, True, (), [], {}, ("u",), ["u"], {"u": 1}):
            self.assertIs(tree_holds(WIDE, stretch, 0, ("crowd", name, 0, 1)), False)

    def test_from_not_below_to(self):
        machine = machine_with(ONE, holds=2)
        stretch = (0, (("number", 1),) * 2, ())
        self.assertIs(tree_holds(machine, stretch, 1, ("crowd", "u", 0, 1)), True)
        for start, behind in ((0, 0), (1, 0), (1, -1), (FAR, 0), (2, 2)):
            self.assertIs(tree_holds(machine, stretch, 1, ("crowd", "u", start, behind)), False)

    def test_splits(self):
        machine = machine_with(ONE, number=("u", 2, 1), fetch=("u", 1, 1))
        deeds = (("number", 1), ("fetch", 1), ("fetch", 1))
        # Alone, no crowd shows that length 3 isn't enough if number is begun in the middle row.
        stretch = (0, deeds, ())
        self.assertIs(tree_holds(machine, stretch, 2, ("crowd", "u", 0, 3)), True)
        self.assertIs(tree_holds(machine, stretch, 2, ("split", 0, 1, ("crowd", "u", 0, 2), ("crowd", "u", 0, 3))), True)
        self.assertIs(tree_holds(machine, stretch, 2, ("split", 0, 1, ("crowd", "u", 0, 3), ("crowd", "u", 0, 3))), True)
        self.assertIs(tree_holds(machine, stretch, 2, ("split", 0, 1, ("crowd", "u", 1, 2), ("crowd", "u", 1, 2))), False)
        self.assertIs(tree_holds(machine, stretch, 2, ("split", 0, 1, ("crowd", "u", 0, 3), WAITS)), False)
        self.assertIs(tree_holds(machine, stretch, 2, ("split", 0, 1, WAITS, ("crowd", "u", 0, 3))), False)

    def test_a_split_that_is_needed(self):
        machine = machine_with(ONE, number=("u", 4, 1))
        stretch = (0, (("number", 1), ("plus", 0, 0), ("minus", 0, 0)), ())
        self.assertTrue(has_rows(machine, stretch, 6))
        self.assertFalse(has_rows(machine, stretch, 5))
        for start in range(-2, 9):
            for behind in range(start + 1, 12):
                self.assertIs(tree_holds(machine, stretch, 5, ("crowd", "u", start, behind)), False)
        tree = ("split", 0, 1, ("crowd", "u", 0, 5), ("crowd", "u", 2, 5))
        self.assertIs(tree_holds(machine, stretch, 5, tree), True)
        self.assertIs(tree_holds(machine, stretch, 6, tree), False)
        self.assertIs(tree_holds(machine, stretch, 5, ("split", 0, 1, tree[4], tree[3])), False)
        for row in (-1, 0, 4, 5, FAR, -FAR):
            self.assertIs(tree_holds(machine, stretch, 5, ("split", 0, row) + tree[3:]), False, row)

    def test_sides_of_a_split(self):
        # One side ahead of row, the other from row on: a row that leaves a side empty makes it a waits.
        stretch = (0, (("number", 1),), ())
        for length, row, one, other in ((1, 0, True, False), (1, 1, False, True), (2, 0, True, False), (2, 1, False, False),
                                        (2, 2, False, True), (1, -FAR, True, False), (1, FAR, False, True), (0, 0, True, True)):
            dead = ("crowd", "v", 0, 1)
            self.assertIs(tree_holds(WIDE, stretch, length, ("split", 0, row, WAITS, dead)), False)
            self.assertIs(tree_holds(WIDE, stretch, length, ("split", 0, row, WAITS, WAITS)), one and other)
            machine = machine_with((("u", 1),))
            pair = (0, (("number", 1), ("number", 1)), ())
            if length == 1:
                full = ("crowd", "u", 0, 1)
                self.assertIs(tree_holds(machine, pair, 1, ("split", 0, row, WAITS, full)), one)
                self.assertIs(tree_holds(machine, pair, 1, ("split", 0, row, full, WAITS)), other)
                self.assertIs(tree_holds(machine, pair, 1, ("split", 1, row, full, full)), True)

    def test_splits_some_levels_deep(self):
        # Each level takes a row off the only deed's window, from one end or from the other.
        stretch = (0, (("number", 1),), ())
        low, high = WAITS, WAITS
        for row in range(30):
            low = ("split", 0, row, WAITS, low)
            high = ("split", 0, row, high, WAITS)
            self.assertIs(tree_holds(WIDE, stretch, 0, low), True)
            self.assertIs(tree_holds(WIDE, stretch, 0, high), True)
            self.assertIs(tree_holds(WIDE, stretch, 1, low), False)
            self.assertIs(tree_holds(WIDE, stretch, 1, high), False)

    def test_a_split_narrows_other_deeds(self):
        machine = machine_with((("u", 2),), comes=2)
        deeds = (("number", 1), ("plus", 0, 0), ("plus", 1, 1))
        stretch = (0, deeds, ())
        # By length 7 there is one row more than the chain needs: with the first in row 1 the last is in row 5.
        tree = ("split", 0, 1, ("split", 2, 5, WAITS, WAITS), ("split", 2, 5, WAITS, WAITS))
        self.assertIs(tree_holds(machine, stretch, 7, tree), False)
        self.assertIs(tree_holds(machine, stretch, 6, tree), False)
        self.assertIs(tree_holds(machine, stretch, 5, tree), True)
        more = machine_with(ONE, comes=2)
        four = (0, deeds + (("number", 2),), ())
        tree = ("split", 0, 1, WAITS, WAITS)
        self.assertIs(tree_holds(more, four, 6, tree), False)

    def test_wrong_splits(self):
        stretch = (0, (("number", 1), ("number", 1)), ())
        self.assertIs(tree_holds(WIDE, stretch, 0, ("split", 1, 7, WAITS, WAITS)), True)
        for k in (2, -1, -2, FAR, True, False, None, "0", "number", (), [], {}, (0,)):
            self.assertIs(tree_holds(WIDE, stretch, 0, ("split", k, 7, WAITS, WAITS)), False, k)
        for row in (True, False, None, "7", (), [], {}, (7,)):
            self.assertIs(tree_holds(WIDE, stretch, 0, ("split", 1, row, WAITS, WAITS)), False, row)
        for side in ODD:
            self.assertIs(tree_holds(WIDE, stretch, 0, ("split", 0, 0, WAITS, side)), False)
            self.assertIs(tree_holds(WIDE, stretch, 0, ("split", 0, 0, side, WAITS)), False)

    def test_wrong_shapes(self):
        stretch = (0, (("number", 1),), ())
        crowd = ("crowd", "u", 0, 1)
        split = ("split", 0, 0, WAITS, WAITS)
        for tree in (WAITS, crowd, split):
            self.assertIs(tree_holds(WIDE, stretch, 0, tree), True)
            for wrong in (list(tree), tree + (0,), tree + (None,), tree[:-1], tree[1:], (tree,), [tree], {tree[0]: tree[1:]},
                          (tree[0].upper(),) + tree[1:], (tree[0] + " ",) + tree[1:], ((tree[0],),) + tree[1:],
                          ([tree[0]],) + tree[1:], ({},) + tree[1:], (None,) + tree[1:], tree[0]):
                self.assertIs(tree_holds(WIDE, stretch, 0, wrong), False, wrong)
        self.assertIs(tree_holds(WIDE, stretch, 0, ("split", 0, 0, list(WAITS), WAITS)), False)
        self.assertIs(tree_holds(WIDE, stretch, 0, ("split", 0, 0, WAITS, list(WAITS))), False)

    def test_no_deeds(self):
        for length in (0, -1, -1000000, 5):
            for tree in (WAITS, ("crowd", "u", 0, 1), ("split", 0, 0, WAITS, WAITS), None):
                self.assertIs(tree_holds(WIDE, (2, (), (0,)), length, tree), False)


class Anything(unittest.TestCase):
    def test_anything(self):
        machine = machine_with(ONE)
        for stretch in ((0, (), ()), (1, (("number", 1), ("plus", 0, 0)), ())):
            for thing in ODD:
                for length in (-1, 0, 1, 2):
                    self.assertIs(tree_holds(machine, stretch, length, thing), False)
                    self.assertIs(tree_holds(machine, stretch, length, thing, ()), False)

    def test_seventy_deep(self):
        stretch = (1, (("number", 1), ("plus", 0, 0)), ())
        for shell in (lambda thing: ("split", 0, 3, WAITS, thing), lambda thing: ("split", 0, 3, thing, WAITS)):
            # The innermost thing is a number, or a knot put there.
            self.assertIs(tree_holds(WIDE, stretch, 0, nested(70, shell)), False)
            tree = WAITS
            for _ in range(68):
                tree = shell(tree)
            self.assertIs(tree_holds(WIDE, stretch, 0, tree), True)
            self.assertIs(tree_holds(WIDE, stretch, 1, tree), False)

    def test_three_thousand_knots(self):
        deeds = (("number", 1),) + tuple(("write", 0, k, 0) for k in range(23))
        stretch = (1, deeds, ())
        # At each of eleven levels both sides are gone down.
        tree = WAITS
        for level in range(11):
            tree = ("split", level % 24, level - 4, tree, tree)
        begun = time.process_time()
        self.assertIs(tree_holds(WIDE, stretch, 0, tree), True)
        self.assertIs(tree_holds(WIDE, stretch, 30, tree), False)
        live = ("crowd", "u", 0, 3)
        for level in range(10):
            live = ("split", level % 24, 40 + level, live, live)
        self.assertIs(tree_holds(WIDE, stretch, 3, live), True)
        self.assertLess(time.process_time() - begun, 20)

    def test_swapped_parts(self):
        rng = random.Random(130)
        told = {True: 0, False: 0}
        worse = ODD[:36] + (WAITS, ("crowd", "u", 0, 1), "waits", "crowd", "split", "u")
        machine = machine_with(ONE, holds=2)
        stretch = (0, (("number", 1),) * 3, ())
        tree = ("split", 0, 1, ("crowd", "u", 0, 5), ("split", 1, 1, ("crowd", "u", 0, 5), ("crowd", "u", 0, 5)))
        self.assertIs(tree_holds(machine, stretch, 4, tree), True)
        for _ in range(3000):
            wrong = swapped(tree, rng, worse)
            if rng.random() < 0.5:
                wrong = swapped(wrong, rng, worse)
            truth = tree_holds(machine, stretch, 4, wrong)
            self.assertIsInstance(truth, bool)
            told[truth] += 1
            if "x" * 8000 not in repr(wrong) and str(FAR) not in repr(wrong):
                self.assertIs(truth, tree_slowly(machine, stretch, 4, wrong), wrong)
        self.assertGreater(min(told.values()), 100)


class ByChance(unittest.TestCase):
    def test_as_the_words_stand(self):
        rng = random.Random(131)
        told = {True: 0, False: 0}
        for _ in range(700):
            machine, stretch = some_machine(rng), some_stretch(rng, 5, MEETING)
            waits = waits_slowly(machine, stretch)
            length = rng.randint(0, 9)
            windows = [(0, length - work[2]) for work in works_of(machine, stretch)]
            tree = some_tree(rng, machine, stretch, waits, windows, rng.randint(0, 4))
            truth = tree_holds(machine, stretch, length, tree)
            self.assertIs(truth, tree_slowly(machine, stretch, length, tree))
            self.assertIs(tree_holds(machine, stretch, length, tree, ()), truth)
            told[truth] += 1
            if truth:
                for lesser in range(-2, length):
                    self.assertIs(tree_holds(machine, stretch, lesser, tree), True)
        self.assertGreater(min(told.values()), 150)

    def test_no_such_rows(self):
        rng = random.Random(132)
        held = 0
        for _ in range(500):
            machine, stretch = some_machine(rng), some_stretch(rng, 4, MEETING)
            papers = all_papers(stretch)
            pairs = pairs_of(papers)
            length = rng.randint(1, 7)
            waits = waits_slowly(machine, stretch, pairs)
            windows = [(0, length - work[2]) for work in works_of(machine, stretch)]
            tree = some_tree(rng, machine, stretch, waits, windows, rng.randint(0, 3))
            if tree_holds(machine, stretch, length, tree, papers):
                held += 1
                self.assertFalse(has_rows(machine, stretch, length, pairs))
        self.assertGreater(held, 100)


class Papers(unittest.TestCase):
    def test_papers_widen_windows(self):
        machine = machine_with(comes=3)
        stretch = (1, (("number", 4), ("write", 1, 0, 0), ("read", 0, 0), ("write", 0, 1, 2), ("plus", 3, 3)), ())
        papers = all_papers(stretch)
        self.assertEqual(pairs_of(papers), ((2, 3),))
        self.assertIs(tree_holds(machine, stretch, 8, WAITS), True)
        machine = machine_with(read=("u", 1, 6))
        pair = (1, (("number", 1), ("write", 0, 0, 1), ("read", 0, 1)), ())
        lifted = all_papers(pair)
        for papers, length in ((None, 6), ((), 6), (lifted, 5)):
            self.assertIs(tree_holds(machine, pair, length, WAITS, papers), True)
            self.assertIs(tree_holds(machine, pair, length + 1, WAITS, papers), False)

    def test_papers_that_do_not_hold(self):
        pair = (1, (("write", 0, 0, 0), ("read", 0, 0)), ())
        self.assertIs(tree_holds(WIDE, pair, 0, WAITS, None), True)
        for papers in ([], 0, "", "papers", False, {}, ((0, 1, (0, ())),), (0,)):
            self.assertIs(tree_holds(WIDE, pair, 0, WAITS, papers), False)

    def test_other_names_of_units(self):
        machine = machine_with((("zz", 1), ("u", 1)), unit="zz")
        stretch = (0, (("number", 1),) * 2, ())
        self.assertIs(tree_holds(machine, stretch, 1, ("crowd", "zz", 0, 1)), True)
        self.assertIs(tree_holds(machine, stretch, 1, ("crowd", "u", 0, 1)), False)


if __name__ == "__main__":
    unittest.main()
