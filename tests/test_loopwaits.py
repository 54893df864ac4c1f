"""How many rows the deeds of a loop wait for one another, over rounds too (21)."""

import random
import unittest

from tests.samples import MIXED, WIDE, machine_with, some_loop, some_machine, waits_slowly
from tests.slow import pairs_of
from tests.slowbeats import loop_waits_slowly
from widerows.loopwaits import loop_waits
from widerows.unlike import all_papers


class LoopWaits(unittest.TestCase):
    def waits(self, loop, told, machine=WIDE, papers=None):
        self.assertEqual(loop_waits(machine, loop, papers), told)

    def test_none(self):
        self.waits((0, (), ()), ())
        self.waits((2, (), (1, 0)), ())
        self.waits((1, (("plus", 0, 0), ("read", 0, 1), ("read", 0, 1)), (0,)), ())

    def test_those_of_a_round(self):
        machine = machine_with(plus=("u", 1, 4))
        self.waits((1, (("plus", 0, 0), ("minus", 1, 0), ("less", 1, 2)), (0,)), ((0, 1, 4, 0), (0, 2, 4, 0), (1, 2, 1, 0)), machine)

    def test_carried_on_by_one_round(self):
        machine = machine_with(plus=("u", 1, 4), times=("u", 1, 6))
        # To itself, to an earlier and to a later deed.
        self.waits((1, (("plus", 0, 0),), (1,)), ((0, 0, 4, 1),), machine)
        self.waits((2, (("less", 0, 0), ("times", 1, 1), ("plus", 0, 1)), (3, 4)),
                   ((1, 0, 6, 1), (1, 2, 6, 1), (2, 1, 4, 1), (2, 2, 4, 1)), machine)

    def test_carried_on_by_several_rounds(self):
        machine = machine_with(plus=("u", 1, 4))
        self.waits((3, (("less", 2, 2), ("plus", 1, 1)), (4, 0, 1)), ((1, 0, 4, 3), (1, 1, 4, 2)), machine)
        # By several ways, of unlike rounds, all are told.
        self.waits((3, (("pick", 0, 1, 2), ("plus", 0, 0)), (4, 0, 1)), ((1, 0, 4, 1), (1, 0, 4, 2), (1, 0, 4, 3), (1, 1, 4, 1)), machine)
        six = (6, (("plus", 5, 5),), (6, 0, 1, 2, 3, 4))
        self.waits(six, ((0, 0, 4, 6),), machine)

    def test_givens_that_only_come_of_givens(self):
        self.waits((1, (("plus", 0, 0),), (0,)), ())
        self.waits((2, (("plus", 0, 1),), (1, 0)), ())
        self.waits((4, (("plus", 0, 3), ("less", 1, 2)), (1, 2, 1, 4)), ((0, 0, 1, 1),))

    def test_a_worth_carried_on_that_is_named_in_its_round_too(self):
        machine = machine_with(plus=("u", 1, 4))
        self.waits((1, (("plus", 0, 0), ("less", 0, 1)), (1,)), ((0, 0, 4, 1), (0, 1, 4, 0), (0, 1, 4, 1)), machine)

    def test_reads_writes_and_shares_over_rounds(self):
        write, read, share = ("write", 0, 0, 1), ("read", 0, 0), ("share", 0, 1)
        both = {(write, write): True, (write, read): True, (read, write): True, (write, share): True, (share, write): True,
                (share, share): True, (read, read): False, (read, share): False, (share, read): False}
        own = {write: True, read: False, share: True}
        for pair, meet in both.items():
            expected = [(0, 0, 0, 1)] * own[pair[0]] + [(1, 1, 0, 1)] * own[pair[1]]
            expected += [(0, 1, 0, 0), (0, 1, 0, 1), (1, 0, 0, 1)] * meet
            self.waits((2, pair, (0, 1)), tuple(sorted(expected)))
        for deed in (("number", 1), ("plus", 0, 1), ("less", 0, 1)):
            self.waits((2, (deed, write), (0, 1)), ((1, 1, 0, 1),))

    def test_of_the_same_rounds_the_greatest_alone(self):
        machine = machine_with(share=("u", 1, 5), read=("u", 1, 3))
        # The share's own 0 over a round gives way to what is carried on; over two rounds nothing meets it.
        self.waits((2, (("share", 0, 1),), (2, 1)), ((0, 0, 5, 1),), machine)
        self.waits((2, (("share", 0, 1),), (1, 2)), ((0, 0, 5, 1), (0, 0, 5, 2)), machine)
        self.waits((2, (("share", 0, 0),), (1, 2)), ((0, 0, 0, 1), (0, 0, 5, 2)), machine)
        self.waits((1, (("read", 0, 0), ("write", 0, 0, 0)), (1,)),
                   ((0, 0, 3, 1), (0, 1, 0, 0), (0, 1, 3, 1), (1, 0, 0, 1), (1, 1, 0, 1)), machine)
        # Both places of a deed name the same.
        self.waits((2, (("plus", 0, 1),), (2, 2)), ((0, 0, 1, 1),), machine)

    def test_rising(self):
        machine = machine_with(share=("u", 1, 5))
        told = loop_waits(machine, (2, (("share", 0, 0),) * 3, (1, 4)))
        self.assertEqual(told, tuple(sorted(told)))
        self.assertIn((2, 0, 0, 1), told)
        self.assertIn((2, 0, 5, 2), told)

    def test_papers_lift_those_of_0_rounds_alone(self):
        loop = (2, (("write", 0, 0, 1), ("read", 0, 1), ("write", 0, 2, 1)), (0, 1))
        papers = all_papers((2, loop[1], ()))
        self.assertEqual(pairs_of(papers), ((0, 1), (0, 2), (1, 2)))
        over = ((0, 0, 0, 1), (0, 1, 0, 1), (0, 2, 0, 1), (1, 0, 0, 1), (1, 2, 0, 1), (2, 0, 0, 1), (2, 1, 0, 1), (2, 2, 0, 1))
        self.waits(loop, over, WIDE, papers)
        self.waits(loop, tuple(sorted(over + ((0, 1, 0, 0), (0, 2, 0, 0)))), WIDE, papers[2:])
        for none in (None, ()):
            self.waits(loop, tuple(sorted(over + ((0, 1, 0, 0), (0, 2, 0, 0), (1, 2, 0, 0)))), WIDE, none)

    def test_papers_lift_no_worth_that_is_named(self):
        loop = (1, (("read", 0, 0), ("write", 0, 1, 1)), (0,))
        papers = all_papers((1, loop[1], ()))
        self.assertEqual(len(papers), 1)
        self.waits(loop, ((0, 1, 0, 1), (0, 1, 3, 0), (1, 0, 0, 1), (1, 1, 0, 1)), MIXED, papers)

    def test_papers_that_do_not_hold_lift_nothing(self):
        loop = (2, (("write", 0, 0, 1), ("read", 0, 1)), (0, 1))
        for papers in ([], 0, "", ((0, 1, (0, ((0, (1, ())),))),), ((0, 1, None),)):
            self.waits(loop, loop_waits(WIDE, loop), WIDE, papers)

    def test_by_chance(self):
        rng = random.Random(210)
        rounds = {}
        lifted = 0
        for _ in range(1500):
            machine, loop = some_machine(rng), some_loop(rng, 10, givens=rng.randint(0, 6))
            told = loop_waits(machine, loop)
            self.assertEqual(told, loop_waits_slowly(machine, loop))
            stretch = (loop[0], loop[1], ())
            self.assertEqual(tuple(wait[:3] for wait in told if wait[3] == 0), waits_slowly(machine, stretch))
            papers = all_papers(stretch)
            less = loop_waits(machine, loop, papers)
            self.assertEqual(less, loop_waits_slowly(machine, loop, pairs_of(papers)))
            self.assertEqual([wait for wait in less if wait[3]], [wait for wait in told if wait[3]])
            lifted += less != told
            for wait in told:
                rounds[wait[3]] = rounds.get(wait[3], 0) + 1
        self.assertGreater(lifted, 50)
        self.assertGreater(min(rounds[count] for count in range(4)), 30)


if __name__ == "__main__":
    unittest.main()
