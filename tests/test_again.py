"""What is told may be handed in again, however great; nothing that is handed in is changed (2)."""

import copy
import random
import unittest

from tests.samples import MEETING, ODD, WIDE, machine_with, run_rounds, some_begin, some_machine, some_stretch
from tests.slow import tree_slowly
from tests.slowbeats import beat_knots_in, beat_tree_slowly
from tests.test_forks import some_fork
from tests.test_keeping import full_stretch
from widerows.beats import beat_holds
from widerows.beattrees import beat_tree_holds
from widerows.boxes import boxes_hold, least_boxes
from widerows.errors import TooMany
from widerows.fewest import fewest_rows
from widerows.forkruns import fork_laid, fork_rows_hold, fork_run
from widerows.forks import is_fork, plain_fork_run
from widerows.greedy import laid
from widerows.keeping import kept
from widerows.leastbeat import least_beat
from widerows.lives import lives_of
from widerows.loops import is_loop, loop_run
from widerows.moving import all_up, moved_up
from widerows.plain import plain_run
from widerows.reach import reaches
from widerows.rounds import rounds_run
from widerows.rowruns import row_run
from widerows.rows import length_of, rows_hold
from widerows.trees import tree_holds
from widerows.unlike import all_papers


class Again(unittest.TestCase):
    def test_stretches_with_keeps_and_fetches(self):
        rng = random.Random(20)
        great = 0
        for _ in range(25):
            machine = rng.choice((some_machine(rng), WIDE, machine_with(comes=4)))
            stretch, rows, boxes = kept(machine, full_stretch(rng, 24, 4, 4), 4)
            great = max(great, len(stretch[1]))
            papers = all_papers(stretch)
            self.assertEqual(len(reaches(machine, stretch, papers)), len(stretch[1]))
            self.assertIs(rows_hold(machine, stretch, laid(machine, stretch, papers), papers), True)
            self.assertEqual(len(lives_of(machine, stretch, rows)), len(boxes))
            self.assertIs(boxes_hold(machine, stretch, rows, least_boxes(machine, stretch, rows)[1]), True)
            begin = ((1, 2, 3, 4), ((0, 5), (2, -1)))
            self.assertEqual(row_run(machine, stretch, rows, begin), plain_run(stretch, begin))
            try:
                fewest, tree = fewest_rows(machine, stretch, papers)
            except TooMany:
                continue
            self.assertIs(rows_hold(machine, stretch, fewest, papers), True)
            self.assertIs(tree_holds(machine, stretch, length_of(machine, stretch, fewest) - 1, tree, papers), True)
        self.assertGreater(great, 40)

    def test_trees_of_others(self):
        rng = random.Random(21)
        told = {True: 0, False: 0}
        pairs = []
        for _ in range(40):
            machine, stretch = some_machine(rng), some_stretch(rng, 7, MEETING)
            try:
                pairs.append((machine, stretch, fewest_rows(machine, stretch)[1]))
            except TooMany:
                continue
        for machine, stretch, _ in pairs:
            for _, _, tree in pairs:
                length = rng.randint(0, 8)
                truth = tree_holds(machine, stretch, length, tree)
                self.assertIs(truth, tree_slowly(machine, stretch, length, tree))
                told[truth] += 1
        self.assertGreater(min(told.values()), 50)

    def test_forks_with_a_great_head(self):
        rng = random.Random(22)
        great = 0
        for _ in range(150):
            machine, fork = some_machine(rng), all_up(some_fork(rng, 12))
            great = max(great, len(fork[1]))
            self.assertEqual(all_up(fork), fork)
            rows = fork_laid(machine, fork)
            self.assertIs(fork_rows_hold(machine, fork, rows), True)
            begin = some_begin(rng, (fork[0], (), ()))
            self.assertEqual(fork_run(machine, fork, rows, begin), plain_fork_run(fork, begin))
        self.assertGreater(great, 16)

    def test_great_worths(self):
        # Twelve rounds of squares, and as many again from where they end.
        loop = (2, (("times", 0, 0), ("write", 1, 0, 2), ("plus", 1, 1)), (2, 4))
        once = loop_run(loop, ((-1000000, 1000000), ()), 12)
        self.assertEqual(once[1][0], 10 ** (6 * 2 ** 12))
        self.assertEqual(loop_run(loop, once[1:], 2), run_rounds(loop, ((-1000000, 1000000), ()), 14))

    def test_great_trees_for_beats(self):
        # Four beats in a row for which thousands of knots are needed in all.
        machine = machine_with(
            (("a", 2), ("b", 1)), plus=("b", 1, 3), share=("a", 6, 2), read=("b", 6, 5), write=("a", 6, 4), unit="a")
        loop = (1, (("write", 0, 3, 0), ("read", 0, 3), ("read", 2, 3), ("write", 3, -2, 2), ("share", 3, 0), ("plus", 0, 0)), (3,))
        beat, rows, trees = least_beat(machine, loop)
        self.assertEqual(beat, 17)
        self.assertGreater(sum(map(beat_knots_in, trees)), 3000)
        for lesser, tree in enumerate(trees, 1):
            self.assertIs(beat_tree_holds(machine, loop, lesser, tree), True)
            self.assertIs(beat_tree_slowly(machine, loop, lesser, tree), True)
            # With other numbers and names it is told, too, whether it is one.
            self.assertIs(beat_tree_holds(machine, loop, lesser + 1, tree), beat_tree_slowly(machine, loop, lesser + 1, tree))
            turned = other_deeds(tree, len(loop[1]))
            self.assertIs(beat_tree_holds(machine, loop, lesser, turned), beat_tree_slowly(machine, loop, lesser, turned))
        begin = ((2,), ((1, 3), (2, 5), (5, 1)))
        for rounds in range(5):
            self.assertEqual(rounds_run(machine, loop, beat, rows, begin, rounds), loop_run(loop, begin, rounds))

    def test_things_are_not_changed(self):
        before = copy.deepcopy(ODD)
        stretch = (1, (("number", 1), ("plus", 0, 1)), (2,))
        fork = (1, (), 0, ((("number", 1),), (1,)), ((), ()))
        for thing in ODD:
            tree_holds(WIDE, stretch, 0, thing)
            tree_holds(WIDE, stretch, 0, ("split", 0, 1, thing, thing))
            tree_holds(WIDE, stretch, 0, ("waits",), [thing])
            boxes_hold(WIDE, stretch, (0, 1), thing)
            boxes_hold(WIDE, stretch, (0, 1), (thing, 0, thing))
            is_fork(thing)
            is_fork((1, thing, 0, thing, thing))
            is_loop(thing)
            is_loop((1, thing, thing))
            fork_rows_hold(WIDE, fork, thing)
            fork_rows_hold(WIDE, fork, (thing, (0,), thing))
            beat_holds(WIDE, (1, stretch[1], (2,)), 3, thing)
            beat_holds(WIDE, (1, stretch[1], (2,)), thing, (0, 1))
            self.assertEqual(moved_up(fork, "yes", 0, [thing])[1], (("number", 1),))
        self.assertEqual(ODD, before)


def other_deeds(tree, many):
    """The tree with another deed in each place."""
    if tree[0] == "first":
        return ("first", (tree[1] + 1) % many, other_deeds(tree[2], many))
    if tree[0] == "split":
        return ("split", (tree[1] + 1) % many, tuple(other_deeds(knot, many) for knot in tree[2]))
    return ("ring", tuple((k + 1) % many for k in tree[1])) if tree[0] == "ring" else tree


if __name__ == "__main__":
    unittest.main()
