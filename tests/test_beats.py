"""Rows of a loop that hold by a beat (22)."""

import copy
import random
import unittest

from tests.samples import MIXED, ODD, WIDE, machine_with, some_loop, some_machine, swapped
from tests.slow import laid_slowly, pairs_of, whole
from tests.slowbeats import beat_holds_slowly
from widerows.beats import beat_holds
from widerows.unlike import all_papers

FAR = 10 ** 39
ONE = (("u", 1),)


class Waiting(unittest.TestCase):
    def just(self, machine, loop, beat, rows, at):
        """The rows hold, and no longer where one is a row earlier."""
        self.assertIs(beat_holds(machine, loop, beat, rows), True)
        early = tuple(row - (k == at) for k, row in enumerate(rows))
        self.assertIs(beat_holds(machine, loop, beat, early), False)

    def test_in_a_round(self):
        loop = (1, (("plus", 0, 0), ("less", 1, 1)), (0,))
        for comes in range(1, 7):
            machine = machine_with(comes=comes)
            for beat in (1, 2, 5, 80, FAR):
                self.just(machine, loop, beat, (2, 2 + comes), 1)

    def test_over_rounds(self):
        # The second deed's worth is the first one's given, by one round and by two.
        for comes in range(1, 7):
            machine = machine_with(comes=comes)
            one = (1, (("plus", 0, 0), ("number", 7)), (2,))
            two = (2, (("plus", 0, 0), ("number", 7)), (1, 3))
            for beat in (1, 3, 4, 40, FAR):
                self.just(machine, one, beat, (9 + comes, 9 + beat), 0)
                self.just(machine, two, beat, (9 + comes, 9 + 2 * beat), 0)

    def test_a_deed_that_waits_for_itself(self):
        for comes in range(1, 7):
            machine = machine_with(comes=comes)
            for rounds in (1, 2, 3):
                loop = (rounds, (("plus", rounds - 1, 0),), (rounds,) + tuple(range(rounds - 1)))
                for beat in range(1, 8):
                    # It names the given of one round, too, so one beat must do.
                    self.assertIs(beat_holds(machine, loop, beat, (5,)), beat >= comes)
                alone = (rounds, (("plus", rounds - 1, rounds - 1),), loop[2])
                for beat in range(1, 8):
                    self.assertIs(beat_holds(machine, alone, beat, (5,)), beat * rounds >= comes)

    def test_what_waits_0_over_a_round(self):
        write, read, share = ("write", 0, 0, 1), ("read", 0, 0), ("share", 0, 1)
        for one, other in ((write, read), (read, write), (write, write), (share, write), (write, share), (share, share)):
            loop = (2, (one, other), (0, 1))
            for beat in (1, 2, 6, FAR):
                self.assertIs(beat_holds(WIDE, loop, beat, (0, beat)), True)
                self.assertIs(beat_holds(WIDE, loop, beat, (0, beat + 1)), False)
                self.assertIs(beat_holds(WIDE, loop, beat, (1, 0)), False)
        for one, other in ((read, read), (read, share), (share, read), (("number", 1), write)):
            for rows in ((0, 9), (9, 0)):
                self.assertIs(beat_holds(WIDE, (2, (one, other), (0, 1)), 2, rows), True)

    def test_papers(self):
        loop = (2, (("write", 0, 0, 1), ("read", 0, 1)), (0, 1))
        papers = all_papers((2, loop[1], ()))
        self.assertIs(beat_holds(WIDE, loop, 3, (2, 0), papers), True)
        self.assertIs(beat_holds(WIDE, loop, 3, (3, 0), papers), True)
        # Over rounds they lift nothing: the read of the next round is not ahead of the write.
        self.assertIs(beat_holds(WIDE, loop, 3, (4, 0), papers), False)
        self.assertIs(beat_holds(WIDE, loop, 3, (0, 4), papers), False)
        for none in (None, ()):
            self.assertIs(beat_holds(WIDE, loop, 3, (2, 0), none), False)
            self.assertIs(beat_holds(WIDE, loop, 3, (0, 0), none), True)
        for bad in ([], 0, "", ((0, 1, None),), papers + papers, list(papers)):
            self.assertIs(beat_holds(WIDE, loop, 3, (0, 0), bad), False)


class Units(unittest.TestCase):
    def held(self, machine, many, beat, rows, truth):
        self.assertIs(beat_holds(machine, (0, (("number", 1),) * many, ()), beat, rows), truth, (beat, rows))

    def test_rows_that_differ_by_whole_beats(self):
        machine = machine_with(ONE)
        for beat in (1, 2, 3, 7, 80, FAR):
            for times in (0, 1, 5):
                self.held(machine, 2, beat, (1, 1 + beat * times), False)
                self.held(machine, 2, beat, (1 + beat * times, 1), False)
                self.held(machine, 2, beat, (1, 2 + beat * times), beat > 1)
                self.held(machine, 2, beat, (beat * times, 2 * beat - 1), beat > 1)

    def test_just_full_and_one_too_many(self):
        for many in range(1, 7):
            machine = machine_with((("u", many),))
            for beat in (1, 2, 5):
                rows = tuple(range(1, 1 + many * beat))
                self.held(machine, len(rows), beat, rows, True)
                self.held(machine, len(rows) + 1, beat, rows + (100,), False)
                self.held(machine, len(rows), beat, rows[:-1] + (rows[-1] - 1,), beat == 1)

    def test_held_over_the_end_of_the_beat(self):
        machine = machine_with(ONE, holds=3)
        self.held(machine, 2, 6, (4, 1), True)
        self.held(machine, 2, 6, (4, 7), True)
        for row in (0, 2, 3, 5, 6, 8):
            self.held(machine, 2, 6, (4, row), False)
        self.held(machine, 2, 7, (5, 8), True)
        self.held(machine, 2, 7, (5, 2), True)
        self.held(machine, 2, 7, (5, 0), False)

    def test_held_longer_than_the_beat(self):
        for holds in range(1, 7):
            for many in range(1, 7):
                machine = machine_with((("u", many),), holds=holds)
                for beat in range(1, 8):
                    # One deed is held in so many of its own rounds at once.
                    at_once = -(-holds // beat)
                    self.held(machine, 1, beat, (3,), at_once <= many)
                    self.held(machine, 0, beat, (), True)
        machine = machine_with((("u", 3),), holds=5)
        # At rest 0 five rows make three, at rest 1 two, and the other way about.
        self.held(machine, 1, 2, (0,), True)
        self.held(machine, 2, 2, (0, 1), False)
        machine = machine_with((("u", 5),), holds=5)
        self.held(machine, 2, 2, (0, 1), True)
        self.held(machine, 2, 2, (0, 2), False)
        self.held(machine, 2, 2, (0, 7), True)

    def test_units_of_two_names(self):
        machine = machine_with((("u", 1), ("v", 1)), times=("v", 2, 1))
        loop = (1, (("plus", 0, 0), ("times", 0, 0)), (0,))
        self.assertIs(beat_holds(machine, loop, 2, (0, 0)), True)
        self.assertIs(beat_holds(machine, loop, 1, (0, 0)), False)
        self.assertIs(beat_holds(machine, (1, loop[1] + (("times", 0, 0),), (0,)), 3, (0, 0, 2)), False)
        self.assertIs(beat_holds(machine, (1, loop[1] + (("times", 0, 0),), (0,)), 4, (0, 0, 2)), True)

    def test_far_too_great_to_go_through(self):
        machine = machine_with(ONE, holds=6)
        self.held(machine, 2, FAR, (0, FAR - 6), True)
        self.held(machine, 2, FAR, (0, FAR - 5), False)
        self.held(machine, 2, FAR, (0, 17 * FAR + 5), False)
        self.held(machine, 2, FAR, (0, 17 * FAR + 6), True)
        self.held(machine, 2, 12, (FAR, FAR + 6), True)
        self.held(machine, 2, 11, (FAR, FAR + 6), False)
        self.held(machine, 1, 6, (FAR,), True)


class Anything(unittest.TestCase):
    LOOP = (2, (("plus", 0, 1), ("write", 1, 0, 2), ("share", 0, 1)), (2, 4))

    def test_things_as_beat_and_rows(self):
        before = copy.deepcopy(ODD)
        rows = (0, 6, 6)
        self.assertIs(beat_holds(MIXED, self.LOOP, 20, rows), True)
        for thing in ODD:
            told = beat_holds(MIXED, self.LOOP, thing, rows)
            self.assertIs(told, whole(thing) and thing > 12)
            self.assertIs(beat_holds(MIXED, self.LOOP, 20, thing), False)
            self.assertIs(beat_holds(MIXED, (0, (), ()), 1, thing), thing == () and isinstance(thing, tuple))
            self.assertIs(beat_holds(MIXED, (0, (), ()), thing, ()), whole(thing) and thing > 0)
            for at in range(3):
                some = rows[:at] + (thing,) + rows[at + 1:]
                expected = whole(thing) and thing >= 0 and beat_holds_slowly(MIXED, self.LOOP, 20, some)
                self.assertIs(beat_holds(MIXED, self.LOOP, 20, some), expected)
            self.assertIs(beat_holds(MIXED, self.LOOP, thing, thing), False)
        self.assertEqual(ODD, before)

    def test_beats_and_rows_that_are_none(self):
        rows = (0, 6, 6)
        for beat in (0, -1, -FAR, True, False, None, "20", (20,), [20], {}):
            self.assertIs(beat_holds(MIXED, self.LOOP, beat, rows), False)
        for some in (rows[:2], rows + (0,), list(rows), (False, 6, 6), (0, 6, -1), (0, 6, "6"), "066", {0: 0, 1: 6, 2: 6}):
            self.assertIs(beat_holds(MIXED, self.LOOP, 20, some), False)

    def test_swapped_parts(self):
        rng = random.Random(220)
        told = {True: 0, False: 0}
        for _ in range(3000):
            rows = swapped((0, 6, 6), rng, ODD[:36])
            right = isinstance(rows, tuple) and len(rows) == 3 and all(whole(row) and row >= 0 for row in rows)
            truth = beat_holds(MIXED, self.LOOP, 20, rows)
            self.assertIs(truth, right and beat_holds_slowly(MIXED, self.LOOP, 20, rows), rows)
            told[truth] += 1
        self.assertGreater(min(told.values()), 100)

    def test_by_chance(self):
        rng = random.Random(221)
        told = {True: 0, False: 0}
        for _ in range(2500):
            machine, loop = some_machine(rng), some_loop(rng, 6)
            papers = rng.choice((None, all_papers((loop[0], loop[1], ()))))
            beat = rng.randint(1, 14)
            rows = tuple(max(0, row + rng.choice((-1, 0, 0, 0, 1, beat))) for row in laid_slowly(machine, (loop[0], loop[1], ())))
            truth = beat_holds(machine, loop, beat, rows, papers)
            self.assertIs(truth, beat_holds_slowly(machine, loop, beat, rows, pairs_of(papers or ())))
            self.assertIs(beat_holds(machine, loop, beat, rows, papers), truth)
            told[truth] += 1
        self.assertGreater(min(told.values()), 500)


if __name__ == "__main__":
    unittest.main()
