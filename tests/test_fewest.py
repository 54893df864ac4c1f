"""The fewest rows, told with a tree that no fewer do (14)."""

import itertools
import random
import time
import unittest

from tests.samples import MEETING, MIXED, WIDE, WORDS, machine_with, some_machine, some_stretch, waits_slowly
from tests.slow import knots_in, least_length, length_slowly, narrowed_slowly, pairs_of, tree_slowly, works_of
from widerows.errors import TooMany
from widerows.fewest import Search, fewest_rows
from widerows.greedy import laid
from widerows.rows import length_of, rows_hold
from widerows.trees import tree_holds
from widerows.unlike import all_papers

ONE = (("u", 1),)
RECKONING = ("number", "plus", "minus", "times", "less", "pick", "read", "share")


# (machine, stretch) of five deeds for which rows on both sides of some split must be gone through.
BRANCHING = (
    (machine_with((("u", 2),), share=("u", 3, 1), minus=("u", 2, 4), times=("u", 3, 2), number=("u", 4, 2), pick=("u", 4, 2)),
     (6, (("share", 0, 1), ("minus", 5, 2), ("times", 7, 5), ("number", 3), ("pick", 3, 4, 1)), ())),
    (machine_with((("u", 2),), pick=("u", 3, 2), number=("u", 3, 2), share=("u", 4, 1)),
     (5, (("pick", 0, 0, 4), ("number", -2), ("number", 1), ("number", 1), ("share", 4, 1)), (9, 4))),
    (machine_with((("u", 2),), write=("u", 2, 1), read=("u", 2, 1), plus=("u", 2, 1)),
     (4, (("write", 1, -2, 1), ("read", 3, -2), ("plus", 2, 2), ("read", 1, 0), ("plus", 0, 5)), (2,))),
    (machine_with(ONE, times=("u", 3, 4), pick=("u", 1, 2), number=("u", 4, 4)),
     (1, (("times", 0, 0), ("pick", 0, 0, 1), ("pick", 1, 0, 2), ("number", -2), ("number", 3)), ())),
    (machine_with((("u", 2),), minus=("u", 4, 3), plus=("u", 4, 1), share=("u", 2, 3), number=("u", 2, 3)),
     (6, (("minus", 4, 4), ("minus", 5, 4), ("plus", 4, 4), ("share", 0, 8), ("number", 1)), (5,))),
)

# Twenty times as many knots as are looked at don't decide this one.
HARD = (
    machine_with(
        (("a", 1), ("b", 2), ("c", 1)), number=("c", 4, 1), plus=("a", 1, 3), times=("b", 4, 4), less=("c", 1, 3),
        pick=("b", 2, 3), share=("c", 1, 3), read=("a", 3, 1), unit="a"),
    (3, (
        ("times", 0, 2), ("read", 0, -1), ("times", 2, 4), ("less", 2, 2), ("share", 2, 6), ("share", 2, 7),
        ("plus", 2, 3), ("pick", 9, 1, 3), ("less", 8, 10), ("less", 5, 3), ("share", 12, 3), ("plus", 6, 13),
        ("number", 0), ("plus", 7, 13), ("plus", 10, 2), ("plus", 12, 13), ("number", -1), ("read", 13, 1),
        ("number", -3), ("less", 18, 15), ("number", 0), ("times", 19, 16), ("plus", 13, 8), ("share", 11, 25)), ()),
)


def small_machine(rng, most=3):
    """A machine whose holds and comes are at most three, with few units."""
    names = ["a", "bb", "c"][:rng.randint(1, 3)]
    units = tuple((name, rng.choice((1, 1, 2, 3))) for name in names)
    return (units, tuple((rng.choice(names), rng.randint(1, most), rng.randint(1, most)) for _ in WORDS))


def full_stretch(rng, words, many=24):
    stretch = some_stretch(rng, many, words, givens=rng.randint(1, 6))
    while len(stretch[1]) < many:
        stretch = some_stretch(rng, many, words, givens=rng.randint(1, 6))
    return stretch


def late_writes(rng):
    """A stretch whose writes wait for what is reckoned, and whose reads, often elsewhere, would wait for them."""
    deeds = []
    for _ in range(rng.randint(1, 2)):
        at = 2 + len(deeds)
        deeds += [("times", 0, 1), ("write", 0, rng.randint(0, 2), at), ("read", 0, rng.randint(0, 2)), ("plus", at + 2, 1)]
    return (2, tuple(deeds), ())


def one_knot_does(machine, stretch, length, pairs=()):
    """Whether waits, or a crowd from a narrowed first to a narrowed last and holds, does for a length."""
    works = works_of(machine, stretch)
    narrow = narrowed_slowly(waits_slowly(machine, stretch, pairs), [(0, length - work[2]) for work in works])
    if narrow is None:
        return True
    ends = [(first, last + work[1]) for work, (first, last) in zip(works, narrow)]
    knots = [("crowd", name, start, behind) for name, many in machine[0] for start, _ in ends for _, behind in ends]
    return any(tree_slowly(machine, stretch, length, knot, pairs) for knot in sorted(set(knots)))


class Fewest(unittest.TestCase):
    def few(self, machine, stretch, papers=None):
        """The told rows' length, rows and tree being as promised."""
        rows, tree = fewest_rows(machine, stretch, papers)
        self.assertIs(rows_hold(machine, stretch, rows, papers), True)
        length = length_slowly(machine, stretch, rows)
        if stretch[1]:
            self.assertIs(tree_holds(machine, stretch, length - 1, tree, papers), True)
            self.assertIs(tree_holds(machine, stretch, length, tree, papers), False)
        else:
            self.assertIsNone(tree)
        return length

    def tried(self, machine, stretch, papers=None):
        """The same, or None where it is refused."""
        try:
            fewest_rows(machine, stretch, papers)
        except TooMany as refusal:
            self.assertIsInstance(refusal.number, int)
            self.assertNotIsInstance(refusal.number, bool)
            return None
        return self.few(machine, stretch, papers)

    def test_no_deeds(self):
        self.assertEqual(fewest_rows(MIXED, (0, (), ())), ((), None))
        self.assertEqual(fewest_rows(MIXED, (2, (), (0, 1)), ()), ((), None))

    def test_one_deed(self):
        for comes in range(1, 7):
            self.assertEqual(fewest_rows(machine_with(comes=comes), (0, (("number", 1),), ())), ((0,), ("waits",)))

    def test_a_chain_and_a_crowd(self):
        self.assertEqual(self.few(machine_with(comes=5), (1, (("plus", 0, 0), ("plus", 1, 1)), ())), 10)
        for holds in range(1, 7):
            self.assertEqual(self.few(machine_with(ONE, holds=holds), (0, (("number", 1),) * 4, ())), 3 * holds + 1)

    def test_fewer_than_laid_at_once(self):
        # Laid at once the fetch takes the only unit in row 0, as it may; the chain would have needed it in row 1.
        machine = machine_with((("u", 1), ("v", 1)), number=("v", 1, 1), plus=("u", 1, 6), fetch=("u", 6, 1))
        stretch = (0, (("number", 1), ("plus", 0, 0), ("fetch", 1)), ())
        self.assertEqual(length_of(machine, stretch, laid(machine, stretch)), 12)
        self.assertEqual(self.few(machine, stretch), 7)
        self.assertEqual(least_length(machine, stretch), 7)

    def test_a_split_is_needed(self):
        machine = machine_with(ONE, number=("u", 4, 1))
        stretch = (0, (("number", 1), ("plus", 0, 0), ("minus", 0, 0)), ())
        self.assertEqual(self.few(machine, stretch), 6)
        self.assertGreater(knots_in(fewest_rows(machine, stretch)[1]), 1)

    def test_rows_laid_at_once_that_papers_lengthen(self):
        machine = machine_with((("u", 1), ("v", 1)), number=("u", 4, 1), read=("v", 4, 5), write=("v", 1, 4))
        stretch = (1, (("write", 0, 3, 0), ("number", 3), ("read", 0, -1), ("number", -3)), ())
        papers = all_papers(stretch)
        lengths = [length_of(machine, stretch, laid(machine, stretch, told)) for told in (None, papers)]
        self.assertEqual(lengths, [6, 8])
        self.assertEqual(self.few(machine, stretch, papers), least_length(machine, stretch, pairs_of(papers)))
        self.assertEqual(fewest_rows(machine, stretch, papers)[0], laid(machine, stretch))

    def test_both_sides_of_a_split(self):
        for machine, stretch in BRANCHING:
            self.assertEqual(self.few(machine, stretch), least_length(machine, stretch))
        self.assertGreater(max(knots_in(fewest_rows(*pair)[1]) for pair in BRANCHING), 20)
        # The last one's rows laid at once aren't the fewest, and fewer are found behind a split alone.
        machine, stretch = BRANCHING[-1]
        self.assertLess(self.few(machine, stretch), length_of(machine, stretch, laid(machine, stretch)))

    def test_no_tree_is_told_that_is_too_deep(self):
        search = Search(WIDE, (0, (("number", 1),), ()), None)
        cuts = [(((0, 5),), 0, (0, ("waits",), side)) for side in (True, False)] * 30
        self.assertEqual(knots_in(search.joined(cuts[1:], ("waits",))), 2 * 59 + 1)
        with self.assertRaises(TooMany):
            search.joined(cuts, ("waits",))
        with self.assertRaises(TooMany):
            search.parted(((0, 5),), 61)

    def test_at_most_four_deeds_are_never_refused(self):
        rng = random.Random(140)
        split = 0
        for _ in range(4000):
            stretch = some_stretch(rng, 4, rng.choice((WORDS, MEETING, RECKONING)))
            machine = small_machine(rng)
            length = self.few(machine, stretch)
            tree = fewest_rows(machine, stretch)[1]
            split += tree is not None and tree[0] == "split"
            self.assertLessEqual(length, length_of(machine, stretch, laid(machine, stretch)))
        self.assertGreater(split, 20)

    def test_of_all_rows_gone_through(self):
        rng = random.Random(141)
        for _ in range(250):
            machine = small_machine(rng)
            stretch = some_stretch(rng, 4, rng.choice((MEETING, RECKONING)))
            papers = all_papers(stretch)
            self.assertEqual(self.few(machine, stretch), least_length(machine, stretch))
            self.assertEqual(self.few(machine, stretch, ()), least_length(machine, stretch))
            self.assertEqual(self.few(machine, stretch, papers), least_length(machine, stretch, pairs_of(papers)))

    def test_one_knot_is_never_refused(self):
        rng = random.Random(142)
        alone = 0
        for _ in range(60):
            machine = rng.choice((some_machine, small_machine))(rng)
            stretch = full_stretch(rng, rng.choice((WORDS, RECKONING)))
            length = length_of(machine, stretch, laid(machine, stretch))
            if one_knot_does(machine, stretch, length - 1):
                alone += 1
                self.assertEqual(self.few(machine, stretch), length)
        self.assertGreater(alone, 30)

    def test_a_hard_one_in_short_time(self):
        begun = time.process_time()
        self.tried(*HARD)
        self.assertLess(time.process_time() - begun, 60)

    def test_24_deeds_in_short_time(self):
        rng = random.Random(143)
        refused, fewer = 0, 0
        begun = time.process_time()
        for _ in range(60):
            machine = rng.choice((some_machine, small_machine, lambda rng: small_machine(rng, 6)))(rng)
            stretch = full_stretch(rng, rng.choice((WORDS, RECKONING)))
            length = self.tried(machine, stretch)
            refused += length is None
            fewer += length is not None and length < length_of(machine, stretch, laid(machine, stretch))
        # Sixty take about five seconds here; each one must end in short time wherever it is run.
        self.assertLess(time.process_time() - begun, 120)
        self.assertLess(refused, 12)
        self.assertGreater(fewer, 2)

    def test_more_papers_are_never_more_rows(self):
        rng = random.Random(144)
        fewer = 0
        for _ in range(120):
            machine = small_machine(rng, 5)
            stretch = late_writes(rng)
            papers = all_papers(stretch)
            some = tuple(paper for paper in papers if rng.random() < 0.5)
            lengths = [self.tried(machine, stretch, told) for told in (None, some, papers)]
            lengths = [length for length in lengths if length is not None]
            self.assertEqual(lengths, sorted(lengths, reverse=True))
            fewer += lengths[-1] < lengths[0]
        self.assertGreater(fewer, 10)

    def test_more_units_are_never_more_rows(self):
        rng = random.Random(145)
        fewer = 0
        for _ in range(150):
            machine = small_machine(rng)
            stretch = some_stretch(rng, 10, RECKONING, givens=2)
            at = rng.randrange(len(machine[0]))
            units = tuple((name, many + (at == k)) for k, (name, many) in enumerate(machine[0]))
            one, other = self.tried(machine, stretch), self.tried((units, machine[1]), stretch)
            if one is not None and other is not None:
                self.assertLessEqual(other, one)
                fewer += other < one
        self.assertGreater(fewer, 20)

    def test_another_order_that_keeps_all_waits(self):
        rng = random.Random(146)
        moved = 0
        for _ in range(150):
            machine = small_machine(rng)
            stretch = some_stretch(rng, 8, MEETING)
            turned, order = another_order(rng, machine, stretch)
            moved += order != sorted(order)
            one, other = self.tried(machine, stretch), self.tried(machine, turned)
            if one is not None and other is not None:
                self.assertEqual(one, other)
        self.assertGreater(moved, 60)

    def test_units_called_otherwise(self):
        rng = random.Random(147)
        for _ in range(100):
            machine = small_machine(rng)
            stretch = some_stretch(rng, 8, MEETING)
            names = dict(zip([name for name, many in machine[0]], rng.sample(["zz", "y", "unit", "a"], 3)))
            units = [(names[name], many) for name, many in machine[0]]
            rng.shuffle(units)
            other = (tuple(units), tuple((names[name], holds, comes) for name, holds, comes in machine[1]))
            lengths = [self.tried(machine, stretch), self.tried(other, stretch)]
            self.assertEqual(len({length for length in lengths if length is not None}), 1)

    def test_the_same_is_told_again(self):
        rng = random.Random(148)
        for _ in range(60):
            machine, stretch = small_machine(rng), some_stretch(rng, 7, MEETING)
            told = fewest_rows(machine, stretch)
            self.assertIsInstance(told, tuple)
            self.assertEqual(fewest_rows(machine, stretch), told)
            self.assertEqual(fewest_rows(machine, stretch, None), told)
            self.assertEqual(fewest_rows(machine, stretch, ()), told)

    def test_a_tree_of_one_holds_for_no_other_length(self):
        rows, tree = fewest_rows(WIDE, (1, (("plus", 0, 0), ("plus", 1, 1)), ()))
        self.assertEqual(rows, (0, 1))
        self.assertEqual([tree_holds(WIDE, (1, (("plus", 0, 0), ("plus", 1, 1)), ()), length, tree) for length in range(4)],
                         [True, True, False, False])


def another_order(rng, machine, stretch):
    """The same deeds in another order that keeps all waits, and that order."""
    givens, deeds, outs = stretch
    waits = waits_slowly(machine, stretch)
    order = []
    while len(order) < len(deeds):
        ready = [k for k in range(len(deeds)) if k not in order
                 and all(i in order for i, j, many in waits if j == k)]
        order.append(rng.choice(ready))
    number = {given: given for given in range(givens)}
    number.update({givens + k: givens + at for at, k in enumerate(order)})
    signs = {"number": "n", "read": "wn", "write": "wnw", "keep": "wn", "fetch": "n"}
    turned = []
    for k in order:
        word, *parts = deeds[k]
        turned.append((word,) + tuple(
            number[part] if sign == "w" else part for part, sign in zip(parts, signs.get(word, "www"))))
    return (givens, tuple(turned), tuple(number[out] for out in outs)), order


class Oracles(unittest.TestCase):
    def test_another_order_has_the_same_waits(self):
        rng = random.Random(149)
        for _ in range(100):
            machine, stretch = small_machine(rng), some_stretch(rng, 8, MEETING)
            turned, order = another_order(rng, machine, stretch)
            waits = sorted((order.index(i), order.index(j), many) for i, j, many in waits_slowly(machine, stretch))
            self.assertEqual(tuple(waits), waits_slowly(machine, turned))

    def test_all_orders_of_four(self):
        machine = machine_with(ONE, number=("u", 2, 3))
        lengths = {length_of(machine, (0, deeds, ()), fewest_rows(machine, (0, deeds, ()))[0]) for deeds in
                   itertools.permutations((("number", 1), ("fetch", 1), ("number", 2), ("fetch", 2)))}
        self.assertEqual(len(lengths), 1)


if __name__ == "__main__":
    unittest.main()
