"""Loops, run plainly so many rounds (20)."""

import random
import unittest

from tests.samples import ODD, run_rounds, some_begin, some_loop, swapped
from widerows.deeds import is_stretch
from widerows.loops import is_loop, loop_run

FAR = 10 ** 39

# Worths: 0 to 2 are given, 3 is the sum, 4 a write's number, 5 what is read.
DEEDS = (("plus", 0, 1), ("write", 2, 0, 3), ("read", 2, -1))
LOOP = (3, DEEDS, (1, 3, 5))


def loop_slowly(thing):
    """As the words of 20 stand, the stretch asked by the checker of stretches."""
    if not isinstance(thing, tuple) or len(thing) != 3:
        return False
    givens, deeds, carried = thing
    if not is_stretch((givens, deeds, ())) or any(deed[0] in ("keep", "fetch") for deed in deeds):
        return False
    if not isinstance(carried, tuple) or len(carried) != givens:
        return False
    return all(is_stretch((givens, deeds, (worth,))) for worth in carried)


class IsLoop(unittest.TestCase):
    def wrong(self, *loop):
        self.assertIs(is_loop(loop), False, loop)

    def test_loops(self):
        for loop in (LOOP, (0, (), ()), (0, (("number", 1),), ()), (1, (), (0,)), (2, (), (1, 0)), (2, DEEDS[:1] * 4, (5, 5))):
            self.assertIs(is_loop(loop), True, loop)

    def test_each_kind(self):
        for deed in (("number", -FAR), ("plus", 0, 1), ("minus", 1, 0), ("times", 0, 0), ("less", 1, 1), ("pick", 0, 1, 0),
                     ("share", 0, 1), ("read", 0, FAR), ("write", 0, -1, 1)):
            self.assertIs(is_loop((2, (deed,), (1, 0))), True)

    def test_keeps_and_fetches(self):
        for deed in (("keep", 0, 0), ("fetch", 0)):
            self.assertIs(is_stretch((1, (deed,), (0,))), True)
            self.wrong(1, (deed,), (0,))
            self.wrong(1, (("plus", 0, 0), deed, ("plus", 1, 1)), (0,))

    def test_carried(self):
        for carried in ((), (1,), (1, 3), (1, 3, 5, 0), (1, 3, 4), (4, 3, 5), (1, 3, 6), (1, 3, FAR), (1, 3, -1), (1, True, 5),
                        (1, None, 5), (1, "3", 5), (1, (3,), 5), [1, 3, 5], None, 3, "135", {0: 1, 1: 3, 2: 5}):
            self.wrong(3, DEEDS, carried)
        for carried in ((0, 1, 2), (2, 2, 2), (5, 3, 0)):
            self.assertIs(is_loop((3, DEEDS, carried)), True)

    def test_givens_and_deeds(self):
        for givens in (-1, 2, 4, True, None, "3", (), [], FAR):
            self.wrong(givens, DEEDS, (1, 3, 5))
        self.wrong(FAR, (), ())
        self.wrong(True, (), (0,))
        for deeds in (list(DEEDS), DEEDS + ((),), DEEDS + (("plus", 0, 4),), DEEDS + (("plus", 0, 6),), DEEDS + (("jump", 0),),
                      DEEDS + (("plus", 0),), (["plus", 0, 1],) + DEEDS[1:], None, "deeds", {}):
            self.wrong(3, deeds, (1, 3, 5))
        self.wrong(3, DEEDS)
        self.wrong(3, DEEDS, (1, 3, 5), ())
        self.assertIs(is_loop(list(LOOP)), False)

    def test_anything(self):
        for thing in ODD:
            self.assertIs(is_loop(thing), False)
            for at in range(3):
                self.assertIs(is_loop(LOOP[:at] + (thing,) + LOOP[at + 1:]), at == 2 and thing == (0, 0, 0))
            self.wrong(3, DEEDS + (thing,), (1, 3, 5))
            self.wrong(3, DEEDS, (1, 3, thing) if thing not in (0, 1, 2) or isinstance(thing, bool) else ())

    def test_swapped_parts(self):
        rng = random.Random(200)
        told = {True: 0, False: 0}
        for _ in range(4000):
            thing = swapped(LOOP, rng, ODD[:36])
            truth = is_loop(thing)
            self.assertIs(truth, loop_slowly(thing), thing)
            told[truth] += 1
        self.assertGreater(min(told.values()), 200)

    def test_by_chance(self):
        rng = random.Random(201)
        for _ in range(300):
            self.assertIs(is_loop(some_loop(rng)), True)


class LoopRun(unittest.TestCase):
    def test_rounds(self):
        # Round by round: 3 = 0 + 1 is written at 2 and carried on; 2 is next what lies ahead of where it was written.
        begin = ((1, 2, 6), ((5, 4),))
        self.assertEqual(loop_run(LOOP, begin, 0), ("ended", (1, 2, 6), ((5, 4),)))
        self.assertEqual(loop_run(LOOP, begin, 1), ("ended", (2, 3, 4), ((5, 4), (6, 3))))
        self.assertEqual(loop_run(LOOP, begin, 2), ("ended", (3, 5, 0), ((4, 5), (5, 4), (6, 3))))
        self.assertEqual(loop_run(LOOP, begin, 3), ("ended", (5, 8, 0), ((0, 8), (4, 5), (5, 4), (6, 3))))

    def test_givens_carried_to_givens(self):
        loop = (4, (("plus", 0, 0),), (0, 2, 1, 4))
        begin = ((5, 6, 7, 8), ())
        self.assertEqual(loop_run(loop, begin, 1), ("ended", (5, 7, 6, 10), ()))
        self.assertEqual(loop_run(loop, begin, 2), ("ended", (5, 6, 7, 10), ()))
        shifted = (3, (("times", 0, 0),), (1, 2, 3))
        self.assertEqual([loop_run(shifted, ((2, 3, 5), ()), rounds)[1] for rounds in range(4)],
                         [(2, 3, 5), (3, 5, 4), (5, 4, 9), (4, 9, 25)])

    def test_no_deeds_and_no_givens(self):
        self.assertEqual(loop_run((0, (), ()), ((), ((1, 2),)), 7), ("ended", (), ((1, 2),)))
        self.assertEqual(loop_run((2, (), (1, 1)), ((3, 4), ()), 1), ("ended", (4, 4), ()))
        self.assertEqual(loop_run((0, (("number", 5), ("write", 0, 1, 0)), ()), ((), ()), 3), ("ended", (), ((6, 5),)))

    def test_faults(self):
        # The second given counts down; when it is 0 the share is a fault, behind that round's write.
        loop = (3, (("number", 1), ("write", 0, 0, 1), ("share", 0, 1), ("write", 0, 1, 5), ("minus", 1, 3), ("plus", 0, 2)),
                (8, 7, 2))
        begin = ((10, 2, 5), ())
        first = ((10, 2), (11, 5))
        self.assertEqual(loop_run(loop, begin, 1), ("ended", (15, 1, 5), first))
        self.assertEqual(loop_run(loop, begin, 2), ("ended", (20, 0, 5), first + ((15, 1), (16, 15))))
        for rounds in (3, 4, 12):
            self.assertEqual(loop_run(loop, begin, rounds), ("fault", 2, 2, first + ((15, 1), (16, 15))))
        self.assertEqual(loop_run(loop, ((10, 0, 5), ((10, 9), (11, 9))), 3), ("fault", 0, 2, ((11, 9),)))
        self.assertEqual(loop_run(loop, ((10, 0, 5), ()), 0), ("ended", (10, 0, 5), ()))

    def test_by_chance(self):
        rng = random.Random(202)
        ends = {}
        for _ in range(1200):
            loop = some_loop(rng, words=("plus", "minus", "less", "pick", "share", "read", "write", "number"))
            begin = some_begin(rng, loop)
            rounds = rng.choice((0, 1, 2, 3, 5, 12))
            told = loop_run(loop, begin, rounds)
            self.assertEqual(told, run_rounds(loop, begin, rounds))
            self.assertEqual(loop_run(loop, begin, rounds), told)
            ends[told[0]] = ends.get(told[0], 0) + 1
            if told[0] == "fault":
                ends[min(told[1], 2)] = ends.get(min(told[1], 2), 0) + 1
        self.assertEqual(len(ends), 5)
        self.assertGreater(min(ends.values()), 10)


if __name__ == "__main__":
    unittest.main()
