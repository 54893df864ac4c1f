"""A loop run by beats (22), and as its rounds one by one (3)."""

import random
import unittest

from tests.samples import WIDE, machine_with, run_rounds, some_begin, some_loop, some_machine
from tests.slow import laid_slowly, pairs_of
from tests.slowbeats import beat_holds_slowly, by_beats_slowly
from widerows.beats import beat_holds
from widerows.errors import Early
from widerows.loops import loop_run
from widerows.rounds import rounds_run
from widerows.unlike import all_papers

FAR = 10 ** 39
SMALL = ("plus", "minus", "less", "pick", "share", "read", "write", "number", "read", "write")


def told_by_beats(machine, loop, beat, rows, begin, rounds):
    try:
        return rounds_run(machine, loop, beat, rows, begin, rounds)
    except Early as refusal:
        return ("early", refusal.number)


class RoundsRun(unittest.TestCase):
    def early(self, k, *asked):
        with self.assertRaises(Early) as caught:
            rounds_run(*asked)
        self.assertEqual(caught.exception.number, k)

    def test_written_out(self):
        # The sum waits four rows for what is read, and a row for the sum of the round ahead.
        machine = machine_with(read=("u", 1, 4))
        loop = (2, (("number", 1), ("read", 0, 0), ("plus", 1, 3), ("plus", 0, 2)), (5, 4))
        begin = ((7, 100), ((7, 1), (8, 20), (9, 300)))
        rows = (0, 0, 4, 1)
        self.assertIs(beat_holds(machine, loop, 2, rows), True)
        self.assertEqual([rounds_run(machine, loop, 2, rows, begin, rounds)[1] for rounds in range(5)],
                         [(7, 100), (8, 101), (9, 121), (10, 421), (11, 421)])
        self.assertEqual(rounds_run(machine, loop, 2, rows, begin, 12), ("ended", (19, 421), begin[1]))

    def test_no_rounds_no_deeds_no_givens(self):
        self.assertEqual(rounds_run(WIDE, (1, (("share", 0, 0),), (1,)), 1, (0,), ((0,), ((1, 2),)), 0), ("ended", (0,), ((1, 2),)))
        self.assertEqual(rounds_run(WIDE, (0, (), ()), 1, (), ((), ((1, 2),)), 5), ("ended", (), ((1, 2),)))
        self.assertEqual(rounds_run(WIDE, (3, (), (1, 2, 2)), 1, (), ((3, 4, 5), ()), 1), ("ended", (4, 5, 5), ()))
        self.assertEqual(rounds_run(WIDE, (3, (), (1, 2, 0)), 1, (), ((3, 4, 5), ()), 4), ("ended", (4, 5, 3), ()))
        self.assertEqual(rounds_run(WIDE, (0, (("number", 1), ("write", 0, 0, 0)), ()), 1, (0, 1), ((), ()), 2), ("ended", (), ((1, 1),)))

    def test_in_a_row_by_rounds_then_in_order(self):
        # Deed 0 of round 1 and deed 1 of round 0 are begun in one row: the earlier round's acts first.
        loop = (2, (("write", 0, 0, 1), ("read", 0, 0), ("plus", 1, 1)), (0, 4))
        self.assertEqual(rounds_run(WIDE, (3, loop[1], (0, 5, 4)), 1, (0, 1, 0), ((9, 3, 0), ()), 1), ("ended", (9, 6, 3), ((9, 3),)))
        told = rounds_run(WIDE, (3, (("write", 0, 0, 1), ("read", 0, 0), ("plus", 1, 1)), (0, 5, 4)), 1, (0, 1, 0), ((9, 3, 0), ()), 2)
        # Round 0 reads 3 in row 1, ahead of round 1's write of 6 there, which round 1 reads in row 2.
        self.assertEqual(told, ("ended", (9, 12, 6), ((9, 6),)))
        shifted = (3, (("read", 0, 0), ("write", 0, 0, 1), ("plus", 1, 1)), (0, 5, 3))
        # Deed 1 of round 0 and deed 0 of round 1 in one row: the write of round 0 goes ahead, though it is behind in order.
        self.assertEqual(rounds_run(WIDE, shifted, 1, (0, 1, 0), ((9, 3, 0), ()), 2), ("ended", (9, 12, 3), ((9, 6),)))
        # Of one round in one row: in order.
        self.assertEqual(rounds_run(WIDE, shifted, 1, (0, 0, 0), ((9, 3, 0), ()), 2), ("ended", (9, 12, 3), ((9, 6),)))
        self.assertEqual(rounds_run(WIDE, (3, loop[1], (0, 5, 4)), 1, (0, 0, 0), ((9, 3, 0), ()), 1), ("ended", (9, 6, 3), ((9, 3),)))

    def test_faults(self):
        loop = (3, (("number", 1), ("write", 0, 0, 1), ("share", 0, 1), ("write", 0, 1, 5), ("minus", 1, 3), ("plus", 0, 2)), (8, 7, 2))
        begin = ((10, 2, 5), ())
        store = ((10, 2), (11, 5), (15, 1), (16, 15))
        rows, beat = (0, 0, 0, 1, 1, 0), 2
        self.assertIs(beat_holds(WIDE, loop, beat, rows), True)
        for rounds in range(13):
            self.assertEqual(rounds_run(WIDE, loop, beat, rows, begin, rounds), loop_run(loop, begin, rounds))
        self.assertEqual(rounds_run(WIDE, loop, beat, rows, begin, 12), ("fault", 2, 2, store))

    def test_a_worth_of_the_same_round_that_has_not_come(self):
        machine = machine_with(plus=("u", 1, 3))
        loop = (1, (("plus", 0, 0), ("less", 1, 1)), (0,))
        for row in (0, 1, 2):
            self.early(1, machine, loop, 9, (0, row), ((4,), ()), 1)
        self.assertEqual(rounds_run(machine, loop, 9, (0, 3), ((4,), ()), 1), ("ended", (4,), ()))
        self.early(1, machine, loop, 9, (5, 0), ((4,), ()), 2)
        self.assertEqual(rounds_run(machine, loop, 9, (5, 0), ((4,), ()), 0), ("ended", (4,), ()))

    def test_a_worth_of_an_earlier_round_that_has_not_come(self):
        machine = machine_with(plus=("u", 1, 3))
        loop = (1, (("plus", 0, 0),), (1,))
        # In round 0 it names what is given; in round 1 its own worth of round 0, which comes three rows later.
        self.assertEqual(rounds_run(machine, loop, 1, (0,), ((4,), ()), 1), ("ended", (8,), ()))
        self.early(0, machine, loop, 1, (0,), ((4,), ()), 2)
        self.early(0, machine, loop, 2, (0,), ((4,), ()), 2)
        self.assertEqual(rounds_run(machine, loop, 3, (0,), ((4,), ()), 2), ("ended", (16,), ()))
        # Carried on through a given: by two rounds, so two beats must be as many rows.
        loop = (2, (("plus", 1, 1),), (2, 0))
        self.early(0, machine, loop, 1, (0,), ((4, 5), ()), 3)
        self.assertEqual(rounds_run(machine, loop, 1, (0,), ((4, 5), ()), 2), ("ended", (8, 10), ()))
        self.assertEqual(rounds_run(machine, loop, 2, (0,), ((4, 5), ()), 3), ("ended", (20, 8), ()))

    def test_a_worth_of_a_later_row(self):
        # The deed whose worth is named isn't even begun.
        loop = (1, (("plus", 0, 0), ("number", 3)), (2,))
        self.early(0, WIDE, loop, 1, (0, 90), ((4,), ()), 2)
        self.assertEqual(rounds_run(WIDE, loop, 1, (0, 90), ((4,), ()), 1), ("ended", (3,), ()))

    def test_the_first_in_the_run(self):
        machine = machine_with(number=("u", 1, 6))
        loop = (0, (("number", 3), ("plus", 0, 0), ("minus", 0, 0)), ())
        self.early(2, machine, loop, 9, (0, 5, 4), ((), ()), 2)
        self.early(1, machine, loop, 9, (0, 4, 5), ((), ()), 2)
        self.early(1, machine, loop, 9, (0, 4, 4), ((), ()), 2)

    def test_early_unless_a_fault_comes_first(self):
        machine = machine_with(plus=("u", 1, 3))
        deeds = (("share", 0, 0), ("plus", 0, 0), ("less", 2, 2))
        loop = (1, deeds, (0,))
        self.assertEqual(rounds_run(machine, loop, 9, (1, 0, 1), ((0,), ()), 2), ("fault", 0, 0, ()))
        self.early(2, machine, loop, 9, (2, 0, 1), ((0,), ()), 2)
        self.early(2, machine, loop, 9, (1, 0, 1), ((4,), ()), 2)
        # A share that names what hasn't come is early, whatever it would share by.
        self.early(1, machine, (1, (("plus", 0, 0), ("share", 1, 0)), (0,)), 9, (0, 0), ((0,), ()), 1)
        # What is given to a later round may come too late, though a fault is in a row behind.
        loop = (2, (("minus", 0, 1), ("share", 1, 0)), (2, 1))
        machine = machine_with(minus=("u", 1, 3))
        self.early(0, machine, loop, 2, (0, 5), ((6, 1), ()), 12)
        self.assertEqual(rounds_run(machine, loop, 3, (0, 0), ((2, 1), ()), 12), ("fault", 2, 1, ()))

    def test_what_holds_is_not_asked(self):
        machine = machine_with((("u", 1),))
        loop = (1, (("number", 1), ("number", 2), ("write", 0, 0, 0)), (2,))
        self.assertIs(beat_holds(machine, loop, 1, (0, 0, 0)), False)
        self.assertEqual(rounds_run(machine, loop, 1, (0, 0, 0), ((4,), ()), 3), ("ended", (2,), ((2, 2), (4, 4))))
        # A read that is begun ahead of a write of the round ahead reads what lies there then.
        loop = (2, (("read", 0, 0), ("write", 0, 0, 1)), (0, 2))
        self.assertEqual(rounds_run(WIDE, loop, 1, (0, 5), ((4, 9), ((4, 7),)), 2), ("ended", (4, 7), ((4, 7),)))

    def test_far_rows(self):
        loop = (1, (("plus", 0, 0), ("write", 0, 0, 1)), (1,))
        told = rounds_run(WIDE, loop, FAR, (FAR, FAR + 1), ((4,), ()), 3)
        self.assertEqual(told, ("ended", (32,), ((4, 8), (8, 16), (16, 32))))

    def test_rows_that_hold_as_round_by_round(self):
        rng = random.Random(222)
        ends = {}
        laid_over = 0
        for _ in range(900):
            machine, loop = some_machine(rng), some_loop(rng, 7, SMALL)
            stretch = (loop[0], loop[1], ())
            pairs = pairs_of(all_papers(stretch))
            rows, beat = rows_by_some_beat(rng, machine, loop, pairs)
            self.assertIs(beat_holds(machine, loop, beat, rows, all_papers(stretch)), True)
            laid_over += max(rows, default=0) >= beat
            for rounds in (0, 1, 2, rng.randint(3, 8), 12):
                begin = some_begin(rng, loop)
                told = rounds_run(machine, loop, beat, rows, begin, rounds)
                self.assertEqual(told, run_rounds(loop, begin, rounds))
                self.assertEqual(told, loop_run(loop, begin, rounds))
                self.assertEqual(rounds_run(machine, loop, beat, rows, begin, rounds), told)
                word = told[0] if told[0] == "ended" else ("fault", min(told[1], 2))
                ends[word] = ends.get(word, 0) + 1
        self.assertGreater(laid_over, 150)
        self.assertEqual(len(ends), 4)
        self.assertGreater(min(ends.values()), 10)

    def test_any_rows_as_gone_through_row_by_row(self):
        rng = random.Random(223)
        ends = {}
        for _ in range(2500):
            machine, loop = some_machine(rng), some_loop(rng, 5, SMALL)
            rows = tuple(row + rng.randint(0, 3) for row in laid_slowly(machine, (loop[0], loop[1], ())))
            if rng.random() < 0.2:
                rows = tuple(rng.randint(0, 9) for _ in rows)
            beat, rounds, begin = rng.randint(1, 9), rng.choice((0, 1, 2, 3, 6)), some_begin(rng, loop)
            told = told_by_beats(machine, loop, beat, rows, begin, rounds)
            self.assertEqual(told, by_beats_slowly(machine, loop, beat, rows, begin, rounds))
            ends[told[0]] = ends.get(told[0], 0) + 1
        self.assertEqual(len(ends), 3)
        self.assertGreater(min(ends.values()), 40)


def rows_by_some_beat(rng, machine, loop, pairs=()):
    """Rows by chance and a beat by which they hold: the least that does for them."""
    rows = laid_slowly(machine, (loop[0], loop[1], ()), pairs)
    if rows and rng.random() < 0.5:
        rows = tuple(row + rng.randint(0, 2) for row in rows)
    beat = 1
    while not beat_holds_slowly(machine, loop, beat, rows, pairs):
        beat += 1
        if beat > 99:
            rows, beat = laid_slowly(machine, (loop[0], loop[1], ()), pairs), 1
    return rows, beat


if __name__ == "__main__":
    unittest.main()
