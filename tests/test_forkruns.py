"""Rows of a fork, held, laid at once, run (19)."""

import random
import unittest

from tests.samples import MIXED, ODD, WIDE, machine_with, rows_hold_slowly, some_begin, some_machine, some_rows, swapped
from tests.slow import laid_slowly, whole
from tests.test_forks import some_fork
from widerows.forkruns import fork_laid, fork_rows_hold, fork_run
from widerows.forks import plain_fork_run
from widerows.moving import all_up

FAR = 10 ** 39

# Worths: 0 and 1 are given, 2 is a write's number, 3 is head's less; a side's own are numbered from 4 on.
HEAD = (("write", 0, 0, 1), ("less", 0, 1))
YES = ((("plus", 0, 3), ("read", 4, 1)), (5, 4, 0))
NO = ((("share", 0, 1), ("write", 0, 5, 3)), (4, 3))
FORK = (2, HEAD, 3, YES, NO)


def own_stretches_slowly(fork):
    """Head and sides, each as a stretch of its own."""
    givens, head, test, yes, no = fork
    there = givens + len(head)
    return ((givens, head, ()), (there,) + yes, (there,) + no)


class ForkRowsHold(unittest.TestCase):
    def test_each_as_of_a_stretch_of_its_own(self):
        machine = machine_with(comes=3)
        self.assertIs(fork_rows_hold(machine, FORK, ((0, 0), (0, 3), (0, 0))), True)
        # Head's worths are there in row 0 of a side, however late they come in head.
        self.assertIs(fork_rows_hold(machine, FORK, ((0, 90), (0, 3), (0, 0))), True)
        self.assertIs(fork_rows_hold(machine, FORK, ((FAR, FAR), (FAR, FAR + 3), (FAR, FAR))), True)

    def test_one_wait_broken(self):
        machine = machine_with(comes=3)
        self.assertIs(fork_rows_hold(machine, FORK, ((0, 0), (0, 2), (0, 0))), False)
        self.assertIs(fork_rows_hold(machine, FORK, ((0, 0), (0, 3), (1, 0))), False)
        head = (("write", 0, 0, 1), ("read", 0, 1), ("plus", 3, 0))
        fork = (2, head, 3, ((), ()), ((), ()))
        self.assertIs(fork_rows_hold(machine, fork, ((1, 1, 4), (), ())), True)
        self.assertIs(fork_rows_hold(machine, fork, ((1, 0, 4), (), ())), False)
        self.assertIs(fork_rows_hold(machine, fork, ((1, 1, 3), (), ())), False)

    def test_papers_lift_nothing_here(self):
        # The places are never one, but there are no papers for a fork's rows.
        fork = (2, (), 0, ((("write", 0, 0, 1), ("read", 0, 1)), ()), ((), ()))
        self.assertIs(fork_rows_hold(WIDE, fork, ((), (0, 0), ())), True)
        self.assertIs(fork_rows_hold(WIDE, fork, ((), (1, 0), ())), False)

    def test_one_unit_too_many(self):
        machine = machine_with((("u", 2),), holds=2)
        three = (("number", 1),) * 3
        for at in range(3):
            parts = [(), (), ()]
            parts[at] = three
            fork = (1, parts[0], 0, (parts[1], ()), (parts[2], ()))
            for rows, truth in (((0, 0, 2), True), ((0, 0, 1), False), ((0, 1, 2), True), ((4, 3, 4), False)):
                told = tuple(rows if k == at else () for k in range(3))
                self.assertIs(fork_rows_hold(machine, fork, told), truth)
        # What head holds beyond its length isn't counted in a side.
        machine = machine_with((("u", 1),), holds=6)
        fork = (1, (("number", 1),), 0, ((("number", 1),), ()), ((("number", 1),), ()))
        self.assertIs(fork_rows_hold(machine, fork, ((0,), (0,), (0,))), True)

    def test_too_many_and_too_few(self):
        good = ((0, 0), (0, 1), (0, 0))
        self.assertIs(fork_rows_hold(WIDE, FORK, good), True)
        for bad in ((), good[:2], good + ((),), ((0,), (0, 1), (0, 0)), ((0, 0, 0), (0, 1), (0, 0)), ((0, 0), (0,), (0, 0)),
                    ((0, 0), (0, 1), (0, 0, 0)), ((0, 0), (0, 1), ()), list(good), ([0, 0], (0, 1), (0, 0)),
                    ((0, 0), (0, True), (0, 0)), ((False, 0), (0, 1), (0, 0)), ((0, 0), (0, 1), (-1, 0)),
                    ((0, 0), (0, 1), (0, None)), ((0, 0), (0, 1), "00"), (0, 0, 0, 1, 0, 0)):
            self.assertIs(fork_rows_hold(WIDE, FORK, bad), False, bad)

    def test_anything(self):
        good = ((0, 0), (0, 1), (0, 0))
        for thing in ODD:
            self.assertIs(fork_rows_hold(WIDE, FORK, thing), False)
            for at in range(3):
                truth = fork_rows_hold(WIDE, FORK, good[:at] + (thing,) + good[at + 1:])
                self.assertIs(truth, thing == (0, 0) and at != 1)
                self.assertIsInstance(fork_rows_hold(WIDE, FORK, good[:at] + ((thing, 7),) + good[at + 1:]), bool)
            empty = (1, (), 0, ((), ()), ((), ()))
            self.assertIs(fork_rows_hold(WIDE, empty, thing), thing == ((), (), ()))

    def test_swapped_parts(self):
        rng = random.Random(193)
        told = {True: 0, False: 0}
        good = fork_laid(MIXED, FORK)
        for _ in range(3000):
            rows = swapped(good, rng, ODD[:36])
            truth = fork_rows_hold(MIXED, FORK, rows)
            self.assertIs(truth, fork_rows_slowly(MIXED, FORK, rows), rows)
            told[truth] += 1
        self.assertGreater(min(told.values()), 100)

    def test_by_chance(self):
        rng = random.Random(194)
        told = {True: 0, False: 0}
        for _ in range(800):
            machine, fork = some_machine(rng), some_fork(rng)
            rows = [some_rows(rng, machine, stretch) for stretch in own_stretches_slowly(fork)]
            self.assertIs(fork_rows_hold(machine, fork, tuple(rows)), True)
            at = rng.randrange(3)
            rows[at] = tuple(max(0, row - rng.randint(0, 2)) for row in rows[at])
            truth = fork_rows_hold(machine, fork, tuple(rows))
            self.assertIs(truth, fork_rows_slowly(machine, fork, tuple(rows)))
            told[truth] += 1
        self.assertGreater(min(told.values()), 100)


def fork_rows_slowly(machine, fork, rows):
    if not isinstance(rows, tuple) or len(rows) != 3:
        return False
    for stretch, part in zip(own_stretches_slowly(fork), rows):
        if not isinstance(part, tuple) or len(part) != len(stretch[1]) or not all(whole(row) and row >= 0 for row in part):
            return False
        if not rows_hold_slowly(machine, stretch, part):
            return False
    return True


class ForkLaid(unittest.TestCase):
    def test_written_out(self):
        machine = machine_with((("u", 1),), comes=3)
        self.assertEqual(fork_laid(machine, FORK), ((0, 1), (0, 3), (0, 1)))
        self.assertEqual(fork_laid(machine, (1, (), 0, ((), ()), ((), (0,)))), ((), (), ()))

    def test_by_chance(self):
        rng = random.Random(195)
        for _ in range(300):
            machine, fork = some_machine(rng), some_fork(rng)
            rows = fork_laid(machine, fork)
            self.assertEqual(rows, tuple(laid_slowly(machine, stretch) for stretch in own_stretches_slowly(fork)))
            self.assertIs(fork_rows_hold(machine, fork, rows), True)
            self.assertEqual(fork_laid(machine, fork), rows)


class ForkRun(unittest.TestCase):
    def test_written_out(self):
        rows = ((0, 0), (0, 1), (0, 0))
        self.assertEqual(fork_run(WIDE, FORK, rows, ((2, 9), ((4, 7),))), ("ended", "yes", (7, 3, 2), ((2, 9), (4, 7))))
        self.assertEqual(fork_run(WIDE, FORK, rows, ((9, 2), ())), ("ended", "no", (4, 0), ((9, 2),)))
        self.assertEqual(fork_run(WIDE, FORK, rows, ((9, 0), ((1, 1),))), ("fault", "no", 0, ((1, 1),)))
        head = (("write", 0, 0, 1), ("share", 0, 1), ("write", 0, 1, 1))
        fork = (2, head, 0, ((), ()), ((), ()))
        self.assertEqual(fork_run(WIDE, fork, ((0, 0, 0), (), ()), ((3, 0), ((3, 8),))), ("fault", "head", 1, ()))

    def test_any_number_but_0_is_yes(self):
        fork = (1, (), 0, ((), ()), ((), (0,)))
        for worth in (1, -1, FAR):
            self.assertEqual(fork_run(WIDE, fork, ((), (), ()), ((worth,), ())), ("ended", "yes", (), ()))
        self.assertEqual(fork_run(WIDE, fork, ((), (), ()), ((0,), ((3, 3),))), ("ended", "no", (0,), ((3, 3),)))

    def test_as_run_plainly(self):
        rng = random.Random(196)
        seen = {}
        for _ in range(600):
            machine, fork = some_machine(rng), some_fork(rng)
            some = tuple(some_rows(rng, machine, stretch) for stretch in own_stretches_slowly(fork))
            for rows in (some, fork_laid(machine, fork)):
                for _ in range(3):
                    begin = some_begin(rng, (fork[0], (), ()))
                    told = fork_run(machine, fork, rows, begin)
                    self.assertEqual(told, plain_fork_run(fork, begin))
                    self.assertEqual(fork_run(machine, fork, rows, begin), told)
                    seen[told[:2]] = seen.get(told[:2], 0) + 1
        self.assertEqual(len(seen), 5)
        self.assertGreater(min(seen.values()), 40)

    def test_with_all_moved_up(self):
        rng = random.Random(197)
        for _ in range(200):
            machine, fork = some_machine(rng), all_up(some_fork(rng))
            begin = some_begin(rng, (fork[0], (), ()))
            self.assertEqual(fork_run(machine, fork, fork_laid(machine, fork), begin), plain_fork_run(fork, begin))


if __name__ == "__main__":
    unittest.main()
