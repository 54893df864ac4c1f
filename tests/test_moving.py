"""Deeds moved up past the choice of a fork (19, 3)."""

import copy
import random
import unittest

from tests.samples import ODD, some_begin
from tests.test_forks import some_fork
from widerows.errors import NoMove
from widerows.forks import is_fork, plain_fork_run, side_of
from widerows.moving import all_up, moved_up
from widerows.unlike import paper_holds, unlike_paper

SIGNS = {"number": "n", "read": "wn", "write": "wnw"}

# Worths: 0 and 1 are given, 2 is a write's number, 3 is head's less; a side's own are numbered from 4 on.
HEAD = (("write", 0, 0, 1), ("less", 0, 1))
MOVABLE = (
    ("number", -7), ("plus", 0, 3), ("minus", 3, 1), ("times", 1, 1), ("less", 1, 0), ("pick", 3, 0, 1), ("read", 0, 2),
)


def worths_named(deed):
    return [part for part, sign in zip(deed[1:], SIGNS.get(deed[0], "www")) if sign == "w"]


def relabelled(deed, label):
    return (deed[0],) + tuple(
        label(part) if sign == "w" else part for part, sign in zip(deed[1:], SIGNS.get(deed[0], "www")))


def moved_slowly(fork, side, k):
    """The deed moved by labels: each worth is called by the deed that it is of, and numbered anew behind that."""
    givens, head, test, yes, no = fork
    parts = {"yes": yes, "no": no}

    def label(name):
        return lambda worth: worth if worth < givens else (
            ("head", worth - givens) if worth < givens + len(head) else (name, worth - givens - len(head)))

    called = {"head": [(("head", at), relabelled(deed, label("head"))) for at, deed in enumerate(head)]}
    for name, (deeds, outs) in parts.items():
        called[name] = [((name, at), relabelled(deed, label(name))) for at, deed in enumerate(deeds)]
    called["head"].append(called[side].pop(k))

    def numbered(name):
        order = [who for who, _ in called["head"]] + ([who for who, _ in called[name]] if name != "head" else [])
        return lambda who: who if isinstance(who, int) else givens + order.index(who)

    told = {name: tuple(relabelled(deed, numbered(name)) for _, deed in called[name]) for name in called}
    sides = [(told[name], tuple(numbered(name)(label(name)(out)) for out in parts[name][1])) for name in ("yes", "no")]
    return (givens, told["head"], test, sides[0], sides[1])


def may_move_slowly(fork, side, k, papers=()):
    givens, head, test, yes, no = fork
    deeds = (yes if side == "yes" else no)[0]
    if deeds[k][0] in ("write", "share") or any(worth >= givens + len(head) for worth in worths_named(deeds[k])):
        return False
    if deeds[k][0] != "read":
        return True
    stretch = side_of(fork, side)
    shown = {at for at, paper in papers if paper_holds(stretch, len(head) + at, len(head) + k, paper)}
    return all(at in shown for at in range(k) if deeds[at][0] == "write")


def same_deed(end, side, k):
    """How an end must be told once deed k of a side stands in head: a fault's number goes with its deed."""
    if end[0] == "fault" and end[1] == side and end[2] > k:
        return ("fault", side, end[2] - 1, end[3])
    return end


class MovedUp(unittest.TestCase):
    def refused(self, fork, side, k, papers=None):
        with self.assertRaises(NoMove):
            moved_up(fork, side, k, papers)

    def test_numbers_written_out(self):
        yes = ((("plus", 0, 3), ("share", 4, 1), ("minus", 0, 3), ("times", 5, 6), ("write", 4, 0, 6)), (7, 6, 5, 4, 3, 0))
        no = ((("read", 3, 1), ("pick", 4, 0, 4)), (4, 5, 1))
        fork = (2, HEAD, 3, yes, no)
        self.assertIs(is_fork(fork), True)
        self.assertEqual(moved_up(fork, "yes", 2), (
            2, HEAD + (("minus", 0, 3),), 3,
            ((("plus", 0, 3), ("share", 5, 1), ("times", 6, 4), ("write", 5, 0, 4)), (7, 4, 6, 5, 3, 0)),
            ((("read", 3, 1), ("pick", 5, 0, 5)), (5, 6, 1))))
        self.assertEqual(moved_up(fork, "no", 0), (
            2, HEAD + (("read", 3, 1),), 3,
            ((("plus", 0, 3), ("share", 5, 1), ("minus", 0, 3), ("times", 6, 7), ("write", 5, 0, 7)), (8, 7, 6, 5, 3, 0)),
            ((("pick", 4, 0, 4),), (4, 5, 1))))

    def test_each_kind_of_each_side_at_each_place(self):
        # What stands ahead of it has no write, so that a read may pass; behind it each deed names it and those ahead.
        ahead = (("number", 3), ("share", 0, 1), ("plus", 4, 5))
        rng = random.Random(190)
        other = ((("plus", 3, 3), ("write", 4, 0, 4)), (4, 3))
        for deed in MOVABLE:
            for at in range(4):
                worth = 4 + at
                own = ahead[:at] + (deed,) + (("plus", worth, max(4, worth - 1)), ("write", worth, 1, worth), ("share", worth, 4))
                side = (own, (worth, worth + 1, worth + 3, 4))
                for word in ("yes", "no"):
                    fork = (2, HEAD, 3) + ((side, other) if word == "yes" else (other, side))
                    self.assertIs(is_fork(fork), True)
                    told = moved_up(fork, word, at)
                    self.assertEqual(told, moved_slowly(fork, word, at))
                    self.assertIs(is_fork(told), True)
                    self.assertEqual(told[1], HEAD + (deed,))
                    for _ in range(8):
                        begin = some_begin(rng, (2, (), ()))
                        self.assertEqual(plain_fork_run(told, begin), same_deed(plain_fork_run(fork, begin), word, at))

    def test_no_write_and_no_share(self):
        side = ((("write", 0, 0, 1), ("share", 0, 1)), ())
        for word, fork in (("yes", (2, HEAD, 3, side, ((), ()))), ("no", (2, HEAD, 3, ((), ()), side))):
            self.refused(fork, word, 0)
            self.refused(fork, word, 1)
            self.refused(fork, word, 1, ((0, unlike_paper((1, (("write", 0, 0, 0), ("read", 0, 1)), ()), 0, 1)),))

    def test_a_worth_of_its_own_side(self):
        for deed in (("plus", 4, 0), ("minus", 0, 4), ("times", 4, 4), ("less", 3, 4), ("pick", 4, 0, 1), ("pick", 0, 4, 1),
                     ("pick", 0, 1, 4), ("read", 4, 0)):
            side = ((("number", 1), deed), ())
            self.refused((2, HEAD, 3, side, ((), ())), "yes", 1)
            self.refused((2, HEAD, 3, ((), ()), side), "no", 1)
            # Once the number is moved up, the other one may be, too.
            told = moved_up(moved_up((2, HEAD, 3, side, ((), ())), "yes", 0), "yes", 0)
            self.assertEqual(told, (2, HEAD + side[0], 3, ((), ()), ((), ())))

    def test_a_read_and_the_writes_ahead(self):
        # Writes of head and of the other side, and those behind it, are not in the way.
        side = ((("read", 0, 0), ("write", 0, 0, 1)), (4,))
        other = ((("write", 0, 0, 1), ("read", 0, 0)), (5,))
        fork = (2, HEAD, 3, side, other)
        self.assertEqual(moved_up(fork, "yes", 0)[1], HEAD + (("read", 0, 0),))
        self.refused(fork, "no", 1)
        self.refused(fork, "no", 1, ())

    def test_papers(self):
        deeds = (("write", 0, 0, 1), ("share", 0, 1), ("write", 0, 1, 1), ("read", 0, 2))
        for word in ("yes", "no"):
            side, other = (deeds, (7,)), ((("plus", 0, 0),), (4,))
            fork = (2, HEAD, 3) + ((side, other) if word == "yes" else (other, side))
            papers = {at: unlike_paper(side_of(fork, word), 2 + at, 5) for at in (0, 2)}
            both = ((0, papers[0]), (2, papers[2]))
            told = moved_slowly(fork, word, 3)
            self.assertEqual(moved_up(fork, word, 3, both), told)
            self.assertEqual(moved_up(fork, word, 3, both[::-1]), told)
            for few in (None, (), both[:1], both[1:], (both[0], both[0]), (both[0], (1, papers[2])), (both[0], (3, papers[2]))):
                self.refused(fork, word, 3, few)
            # One that doesn't hold: a measure that is none, a line that doesn't follow, no paper at all.
            for bad in ((-3, ()), (1, ()), (0, ((0, (5, ())),)), (), None, 0, (0,), [0, ()], ("0", ())):
                self.refused(fork, word, 3, (both[0], (2, bad)))
                # Of several for one write, one is enough, wherever it stands.
                self.assertEqual(moved_up(fork, word, 3, ((2, bad),) + both), told)
                self.assertEqual(moved_up(fork, word, 3, both + ((2, bad), (0, bad))), told)

    def test_a_paper_must_hold_in_the_stretch_of_head_and_side(self):
        # The measure 2 is found in head's number; by the side alone the worth would be anything.
        head = (("number", 2), ("times", 0, 2))
        fork = (2, head, 0, ((("write", 3, 1, 0), ("read", 3, 4)), (5,)), ((), ()))
        self.assertEqual(moved_up(fork, "yes", 1, ((0, (0, ())),))[1], head + (("read", 3, 4),))
        fork = (2, head, 0, ((("write", 1, 0, 0), ("minus", 3, 3), ("read", 3, 1)), (6,)), ((), ()))
        self.refused(fork, "yes", 2, ((0, (2, ())),))
        fork = (2, head + (("plus", 3, 3),), 0, ((("write", 3, 0, 0), ("read", 4, 1)), (6,)), ((), ()))
        self.refused(fork, "yes", 1, ((0, (2, ())),))
        lines = ((2, (2, ())), (3, (0, ((0, 2),))), (4, (0, ((0, 4),))))
        self.assertEqual(moved_up(fork, "yes", 1, ((0, (2, lines)),)), moved_slowly(fork, "yes", 1))

    def test_unlike_places_that_meet_without_a_paper(self):
        # With the places one, the move would be seen; so it is refused.
        fork = (2, (), 0, ((("write", 0, 1, 1), ("read", 1, 0)), (3,)), ((), ()))
        self.refused(fork, "yes", 1)
        self.refused(fork, "yes", 1, ((0, (0, ())),))

    def test_odd_things_as_papers(self):
        fork = (2, HEAD, 3, ((("write", 0, 0, 1), ("read", 0, 1), ("plus", 0, 1)), (5, 6)), ((), ()))
        before = copy.deepcopy(ODD)
        for thing in ODD:
            self.refused(fork, "yes", 1, thing)
            self.refused(fork, "yes", 1, (thing,))
            self.refused(fork, "yes", 1, ((0, thing),))
            self.refused(fork, "yes", 1, ((thing, (0, ())),) if thing != 0 or isinstance(thing, bool) else ())
            # What is no read needs no paper.
            self.assertEqual(moved_up(fork, "yes", 2, thing), moved_slowly(fork, "yes", 2))
        self.assertEqual(moved_up(fork, "yes", 1, ((0, (0, ())),)), moved_slowly(fork, "yes", 1))
        self.assertEqual(ODD, before)

    def test_no_such_deed(self):
        fork = (2, HEAD, 3, ((("number", 1), ("number", 2)), (4,)), ((), ()))
        for k in (-1, 2, 10 ** 39, True, None, "0"):
            self.refused(fork, "yes", k)
        self.refused(fork, "no", 0)
        for side in ("head", "", None, True, ("no",), []):
            self.refused(fork[:3] + fork[:2:-1], side, 0)

    def test_by_chance(self):
        rng = random.Random(191)
        seen = {"moved": 0, "refused": 0, "papers": 0}
        ends = {}
        for _ in range(500):
            fork = some_fork(rng)
            for side, (deeds, outs) in (("yes", fork[3]), ("no", fork[4])):
                for k in range(len(deeds)):
                    papers = papers_for(fork, side, k)
                    if not may_move_slowly(fork, side, k, papers):
                        self.refused(fork, side, k, papers)
                        seen["refused"] += 1
                        continue
                    seen["papers"] += not may_move_slowly(fork, side, k)
                    seen["moved"] += 1
                    told = moved_up(fork, side, k, papers)
                    self.assertEqual(told, moved_slowly(fork, side, k))
                    self.assertEqual(moved_up(fork, side, k, papers), told)
                    self.assertIs(is_fork(told), True)
                    for _ in range(6):
                        begin = some_begin(rng, (fork[0], (), ()))
                        end = plain_fork_run(told, begin)
                        self.assertEqual(end, same_deed(plain_fork_run(fork, begin), side, k))
                        ends[end[:2]] = ends.get(end[:2], 0) + 1
        self.assertGreater(seen["moved"], 300)
        self.assertGreater(seen["refused"], 500)
        self.assertGreater(seen["papers"], 10)
        self.assertEqual(len(ends), 5)
        self.assertGreater(min(ends.values()), 30)


def papers_for(fork, side, k):
    """All papers that there are for a deed of a side and the writes ahead of it in its side."""
    stretch, ahead = side_of(fork, side), len(fork[1])
    if stretch[1][ahead + k][0] != "read":
        return ()
    told = [(at, unlike_paper(stretch, ahead + at, ahead + k)) for at in range(k) if stretch[1][ahead + at][0] == "write"]
    return tuple((at, paper) for at, paper in told if paper is not None)


class AllUp(unittest.TestCase):
    def test_in_order(self):
        yes = ((("share", 0, 1), ("plus", 0, 3), ("number", 4), ("times", 5, 6), ("read", 0, 1), ("write", 0, 1, 7), ("read", 0, 2)),
               (8, 7, 10))
        no = ((("number", 9), ("write", 0, 0, 4), ("minus", 4, 4), ("read", 3, 0)), (6, 7))
        fork = (2, HEAD, 3, yes, no)
        self.assertIs(is_fork(fork), True)
        told = all_up(fork)
        self.assertEqual(told[1], HEAD + (
            ("plus", 0, 3), ("number", 4), ("times", 4, 5), ("read", 0, 1), ("number", 9), ("minus", 8, 8)))
        self.assertEqual(told[3], ((("share", 0, 1), ("write", 0, 1, 6), ("read", 0, 2)), (7, 6, 12)))
        self.assertEqual(told[4], ((("write", 0, 0, 8), ("read", 3, 0)), (9, 11)))
        self.assertEqual(told[2], 3)

    def test_nothing_to_move(self):
        for fork in (
                (1, (), 0, ((), ()), ((), (0,))),
                (2, HEAD, 3, ((("share", 0, 1), ("plus", 4, 4)), (5,)), ((("write", 0, 0, 1), ("read", 0, 1)), (5,)))):
            self.assertEqual(all_up(fork), fork)

    def test_a_deed_that_may_be_once_another_is(self):
        deeds = (("number", 1), ("plus", 1, 1), ("plus", 2, 1))
        fork = (1, (), 0, (deeds, (3,)), (deeds, (1,)))
        told = all_up(fork)
        self.assertEqual(told, (
            1, deeds + (("number", 1), ("plus", 4, 4), ("plus", 5, 4)), 0, ((), (3,)), ((), (4,))))

    def test_by_chance(self):
        rng = random.Random(192)
        great, ends = 0, {}
        for _ in range(400):
            fork = some_fork(rng)
            told, by_steps = all_up(fork), fork
            moved = {"yes": 0, "no": 0}
            for side, at in (("yes", 3), ("no", 4)):
                while True:
                    ready = [k for k in range(len(by_steps[at][0])) if may_move_slowly(by_steps, side, k)]
                    if not ready:
                        break
                    by_steps = moved_slowly(by_steps, side, ready[0])
                    moved[side] += 1
            self.assertEqual(told, by_steps)
            self.assertIs(is_fork(told), True)
            self.assertEqual(all_up(told), told)
            great = max(great, len(told[1]))
            for side, at in (("yes", 3), ("no", 4)):
                for k in range(len(told[at][0])):
                    with self.assertRaises(NoMove):
                        moved_up(told, side, k)
            for _ in range(5):
                begin = some_begin(rng, (fork[0], (), ()))
                one, other = plain_fork_run(fork, begin), plain_fork_run(told, begin)
                self.assertEqual((one[0], one[1], one[3]), (other[0], other[1], other[3]))
                if one[0] == "ended" or one[1] == "head":
                    self.assertEqual(one, other)
                else:
                    # It is the same share, which keeps its place among those of its side.
                    at = 3 if one[1] == "yes" else 4
                    shares = [[k for k, deed in enumerate(it[at][0]) if deed[0] == "share"] for it in (fork, told)]
                    self.assertEqual(shares[0].index(one[2]), shares[1].index(other[2]))
                ends[one[:2]] = ends.get(one[:2], 0) + 1
        self.assertGreater(great, 10)
        self.assertEqual(len(ends), 5)
        self.assertGreater(min(ends.values()), 20)


if __name__ == "__main__":
    unittest.main()
