"""The waits of a stretch (7, 9)."""

import random
import unittest

from tests.samples import MEETING, MIXED, ODD, WORDS, some_machine, some_stretch, waits_slowly
from widerows.unlike import all_papers, papers_hold
from widerows.waits import waits_of

COMES = dict(zip(WORDS, [work[2] for work in MIXED[1]]))
WRITE, READ, SHARE = ("write", 0, 0, 1), ("read", 0, 0), ("share", 0, 1)


class WaitsOf(unittest.TestCase):
    def told(self, deeds, waits, givens=3, papers=None):
        self.assertEqual(waits_of(MIXED, (givens, tuple(deeds), ()), papers), tuple(waits))

    def test_no_deeds_and_one(self):
        self.told((), ())
        self.told((WRITE,), ())

    def test_a_worth_named_waits_comes_of_the_earlier(self):
        makers = (("number", 1), ("plus", 0, 0), ("minus", 0, 0), ("times", 0, 0), ("less", 0, 0), ("pick", 0, 0, 0),
                  ("share", 0, 0), ("read", 0, 0), ("fetch", 0))
        for maker in makers:
            for naming in (("plus", 3, 0), ("minus", 0, 3), ("times", 3, 3), ("less", 0, 3), ("pick", 0, 0, 3),
                           ("pick", 3, 0, 0), ("share", 3, 0), ("read", 3, 0), ("write", 3, 0, 0), ("write", 0, 0, 3),
                           ("keep", 3, 0)):
                self.told((maker, naming), ((0, 1, COMES[maker[0]]),))

    def test_named_where_they_would_also_wait_0(self):
        self.told((("read", 0, 0), ("write", 0, 0, 3)), ((0, 1, COMES["read"]),))
        self.told((("share", 0, 1), ("share", 3, 1)), ((0, 1, COMES["share"]),))
        self.told((("share", 0, 1), ("write", 0, 0, 3)), ((0, 1, COMES["share"]),))
        self.told((("fetch", 2), ("keep", 3, 2)), ((0, 1, COMES["fetch"]),))

    def test_numbers_and_spots_name_nothing(self):
        self.told((("number", 1), ("number", 3), ("read", 0, 3), ("keep", 0, 3), ("fetch", 4)), ())

    def test_reads_and_writes(self):
        self.told((WRITE, WRITE), ((0, 1, 0),))
        self.told((WRITE, READ), ((0, 1, 0),))
        self.told((READ, WRITE), ((0, 1, 0),))
        self.told((READ, READ), ())

    def test_shares(self):
        self.told((SHARE, SHARE), ((0, 1, 0),))
        self.told((SHARE, WRITE), ((0, 1, 0),))
        self.told((WRITE, SHARE), ((0, 1, 0),))
        self.told((READ, SHARE), ())
        self.told((SHARE, READ), ())

    def test_shelf(self):
        keep, fetch = ("keep", 0, 2), ("fetch", 2)
        self.told((keep, keep), ((0, 1, 0),))
        self.told((keep, fetch), ((0, 1, 0),))
        self.told((fetch, keep), ((0, 1, 0),))
        self.told((fetch, fetch), ())
        self.told((keep, ("keep", 0, 1)), ())
        self.told((keep, ("fetch", 0)), ())
        self.told((("fetch", 1), keep), ())
        for other in (WRITE, READ, SHARE):
            self.told((keep, other, fetch), ((0, 2, 0),))

    def test_others_wait_for_nothing_unnamed(self):
        idle = (("number", 1), ("plus", 0, 1), ("minus", 0, 1), ("times", 0, 1), ("less", 0, 1), ("pick", 0, 1, 2))
        for deed in (WRITE, READ, SHARE, ("keep", 0, 0), ("fetch", 0)):
            self.told(idle + (deed,), ())
            self.told((deed,) + idle, ())

    def test_rising_each_pair_once(self):
        deeds = (("number", 1), WRITE, ("plus", 3, 3), READ, ("share", 5, 3), ("write", 6, 0, 5))
        self.told(deeds, (
            (0, 2, 1), (0, 4, 1), (1, 3, 0), (1, 4, 0), (1, 5, 0), (2, 4, 2), (2, 5, 2), (3, 5, 3), (4, 5, 0)))

    def test_papers_lift_places(self):
        apart = (0, ())
        for one, other in ((("write", 0, 0, 1), ("write", 0, 1, 1)), (("write", 0, 0, 1), ("read", 0, 1)),
                           (("read", 0, 1), ("write", 0, 0, 1))):
            self.told((one, other), (), papers=((0, 1, apart),))
            self.told((one, other), ((0, 1, 0),), papers=())
            self.told((one, other), ((0, 1, 0),), papers=None)

    def test_papers_do_not_lift_a_worth_named(self):
        deeds = (("read", 0, 0), ("write", 0, 1, 3))
        self.told(deeds, ((0, 1, COMES["read"]),), papers=((0, 1, (0, ())),))

    def test_papers_lift_their_own_pair_alone(self):
        deeds = (("write", 0, 0, 1), ("write", 0, 1, 1), SHARE, ("write", 0, 2, 1))
        self.told(deeds, ((0, 2, 0), (0, 3, 0), (1, 2, 0), (1, 3, 0), (2, 3, 0)), papers=((0, 1, (0, ())),))
        everything = all_papers((3, deeds, ()))
        self.told(deeds, ((0, 2, 0), (1, 2, 0), (2, 3, 0)), papers=everything)

    def test_papers_that_do_not_hold_lift_nothing(self):
        deeds = (("write", 0, 0, 1), ("write", 1, 0, 1))
        stretch = (2, deeds, ())
        for papers in ODD + (((0, 1, (0, ())),), [(0, 1, (0, ()))]):
            self.assertEqual(waits_of(MIXED, stretch, papers), ((0, 1, 0),))

    def test_by_chance_against_the_words(self):
        rng = random.Random(70)
        lifted = 0
        for _ in range(600):
            machine, stretch = some_machine(rng), some_stretch(rng, most=14, words=MEETING)
            self.assertEqual(waits_of(machine, stretch), waits_slowly(machine, stretch))
            papers = tuple(entry for entry in all_papers(stretch) if rng.random() < 0.6)
            self.assertTrue(papers_hold(stretch, papers))
            pairs = [entry[:2] for entry in papers]
            told = waits_of(machine, stretch, papers)
            self.assertEqual(told, waits_slowly(machine, stretch, pairs))
            self.assertEqual(told, waits_of(machine, stretch, papers))
            lifted += len(pairs)
        self.assertGreater(lifted, 150)
