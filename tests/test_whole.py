"""What the document promises over the whole program (3), each promise over many drawn inputs."""

import random
import unittest

from tests.samples import MEETING, PLACING, run_one_by_one, run_rounds, some_begin, some_loop, some_machine, some_rows, some_stretch
from tests.slow import has_rows, length_slowly, lives_slowly, living_in, pairs_of
from tests.slowbeats import beat_tree_slowly, has_beat_rows
from tests.test_fewest import another_order, late_writes, small_machine
from tests.test_forks import some_fork
from tests.test_keeping import full_stretch
from tests.test_leastbeat import ringed_loop, tight_machine
from tests.test_moving import papers_for, same_deed
from tests.test_unlike import every_choice
from widerows.beats import beat_holds
from widerows.beattrees import beat_tree_holds
from widerows.boxes import boxes_hold, least_boxes
from widerows.boxruns import box_run
from widerows.errors import NoMove, TooMany
from widerows.fewest import fewest_rows
from widerows.forks import plain_fork_run
from widerows.keeping import kept
from widerows.leastbeat import least_beat
from widerows.loops import loop_run
from widerows.moving import all_up, moved_up
from widerows.plain import plain_run
from widerows.rounds import rounds_run
from widerows.rowruns import row_run
from widerows.rows import length_of, rows_hold
from widerows.trees import tree_holds
from widerows.unlike import all_papers, paper_holds, unlike_paper


def fewest_length(machine, stretch, papers=None):
    """The length of the fewest rows, or None where they are refused."""
    try:
        return length_of(machine, stretch, fewest_rows(machine, stretch, papers)[0])
    except TooMany:
        return None


class Rows(unittest.TestCase):
    def test_rows_that_are_let_by_come_to_the_same(self):
        rng = random.Random(300)
        ends, passed = {}, 0
        for _ in range(1800):
            machine, stretch = some_machine(rng), some_stretch(rng, 12, rng.choice((MEETING, PLACING)))
            papers = all_papers(stretch)
            rows = some_rows(rng, machine, stretch, pairs_of(papers))
            # Some are put earlier by chance; what is asked is whether the checker lets them by.
            rows = tuple(max(0, row - rng.choice((0, 0, 0, 1))) for row in rows)
            if not rows_hold(machine, stretch, rows, papers):
                continue
            passed += not rows_hold(machine, stretch, rows)
            for _ in range(5):
                begin = some_begin(rng, stretch)
                told = row_run(machine, stretch, rows, begin)
                self.assertEqual(told, plain_run(stretch, begin))
                self.assertEqual(told, run_one_by_one(stretch, begin)[0])
                ends[told[0]] = ends.get(told[0], 0) + 1
        self.assertGreater(passed, 40)
        self.assertGreater(min(ends["ended"], ends["fault"]), 100)

    def test_papers(self):
        rng = random.Random(301)
        told = {True: 0, False: 0}
        for _ in range(1200):
            stretch = some_stretch(rng, 7, PLACING)
            deeds = stretch[1]
            runs = [run_one_by_one(stretch, some_begin(rng, stretch))[1] for _ in range(8)]
            spots = [k for k, deed in enumerate(deeds) if deed[0] in ("read", "write")]
            for i in spots:
                for j in spots:
                    if i >= j or deeds[i][0] == deeds[j][0] == "read":
                        continue
                    paper = unlike_paper(stretch, i, j)
                    told[paper is not None] += 1
                    if paper is None:
                        self.assertFalse(any(paper_holds(stretch, i, j, (measure, lines))
                                             for measure in (0, 2, 3, 4, 6, 9) for lines in every_choice(stretch)))
                        continue
                    self.assertIs(paper_holds(stretch, i, j, paper), True)
                    for worths in runs:
                        self.assertNotEqual(worths[deeds[i][1]] + deeds[i][2], worths[deeds[j][1]] + deeds[j][2])
        self.assertGreater(min(told.values()), 100)

    def test_the_fewest_rows_and_their_tree(self):
        rng = random.Random(302)
        for _ in range(250):
            machine, stretch = small_machine(rng), some_stretch(rng, 4, MEETING)
            papers = rng.choice((None, all_papers(stretch)))
            rows, tree = fewest_rows(machine, stretch, papers)
            self.assertIs(rows_hold(machine, stretch, rows, papers), True)
            length = length_slowly(machine, stretch, rows)
            if stretch[1]:
                self.assertIs(tree_holds(machine, stretch, length - 1, tree, papers), True)
                self.assertFalse(has_rows(machine, stretch, length - 1, pairs_of(papers or ())))
                # Where another stretch's tree is let by, there are no such rows either.
                other = some_stretch(rng, 3, MEETING)
                for most in range(6):
                    if tree_holds(machine, other, most, tree):
                        self.assertFalse(has_rows(machine, other, most))

    def test_more_units_and_more_papers(self):
        rng = random.Random(303)
        fewer = 0
        for _ in range(150):
            machine = small_machine(rng)
            stretch = rng.choice((late_writes(rng), some_stretch(rng, 8, MEETING)))
            papers = all_papers(stretch)
            some = tuple(paper for paper in papers if rng.random() < 0.5)
            more = (tuple((name, min(6, many + rng.randint(0, 1))) for name, many in machine[0]), machine[1])
            lengths = [fewest_length(machine, stretch), fewest_length(machine, stretch, some), fewest_length(machine, stretch, papers),
                       fewest_length(more, stretch, papers)]
            lengths = [length for length in lengths if length is not None]
            self.assertEqual(lengths, sorted(lengths, reverse=True))
            fewer += lengths[-1] < lengths[0]
        self.assertGreater(fewer, 20)

    def test_another_order_and_other_names(self):
        rng = random.Random(304)
        moved = 0
        for _ in range(150):
            machine, stretch = small_machine(rng), some_stretch(rng, 8, MEETING)
            turned, order = another_order(rng, machine, stretch)
            moved += order != sorted(order)
            names = dict(zip([name for name, _ in machine[0]], rng.sample(["zz", "y", "unit", "a"], 3)))
            units = [(names[name], many) for name, many in machine[0]]
            rng.shuffle(units)
            called = (tuple(units), tuple((names[name], holds, comes) for name, holds, comes in machine[1]))
            lengths = {fewest_length(machine, stretch), fewest_length(machine, turned), fewest_length(called, turned)} - {None}
            self.assertLessEqual(len(lengths), 1)
        self.assertGreater(moved, 60)


class Boxes(unittest.TestCase):
    def test_the_least_boxes_do_and_fewer_never_do(self):
        rng = random.Random(305)
        most = 0
        for _ in range(400):
            machine, stretch = some_machine(rng), some_stretch(rng, 10)
            rows = some_rows(rng, machine, stretch)
            number, boxes, row = least_boxes(machine, stretch, rows)
            self.assertIs(boxes_hold(machine, stretch, rows, boxes), True)
            self.assertTrue(all(box is None or box < number for box in boxes))
            # So many live in one row, so no fewer boxes can be told apart there.
            lives = lives_slowly(machine, stretch, rows)
            self.assertEqual(len(living_in(lives, row)) if row is not None else 0, number)
            most = max(most, number)
            fewer = tuple(None if box is None else min(box, number - 2) for box in boxes)
            self.assertIs(boxes_hold(machine, stretch, rows, fewer), number == 0)
            for _ in range(3):
                begin = some_begin(rng, stretch)
                self.assertEqual(box_run(machine, stretch, rows, boxes, begin), plain_run(stretch, begin))
        self.assertGreater(most, 5)

    def test_kept_on_the_shelf(self):
        rng = random.Random(306)
        shelved = 0
        for _ in range(120):
            machine, stretch = some_machine(rng), full_stretch(rng, rng.randint(4, 16), 4, 4)
            told, rows, boxes = kept(machine, stretch, 4)
            self.assertIs(rows_hold(machine, told, rows), True)
            self.assertIs(boxes_hold(machine, told, rows, boxes), True)
            self.assertTrue(all(box is None or box < 4 for box in boxes))
            places = [at for at, deed in enumerate(told[1]) if deed[0] not in ("keep", "fetch")]
            shelved += len(places) < len(told[1])
            for _ in range(4):
                begin = some_begin(rng, stretch)
                end = plain_run(stretch, begin)
                end = ("fault", places[end[1]], end[2]) if end[0] == "fault" else end
                self.assertEqual(plain_run(told, begin), end)
                self.assertEqual(box_run(machine, told, rows, boxes, begin), end)
        self.assertGreater(shelved, 40)


class Forks(unittest.TestCase):
    def test_a_deed_moved_up_changes_nothing_on_any_way(self):
        rng = random.Random(307)
        ends, moved = {}, 0
        for _ in range(300):
            fork = some_fork(rng)
            side = rng.choice(("yes", "no"))
            for k in range(len(fork[3 if side == "yes" else 4][0])):
                try:
                    told = moved_up(fork, side, k, papers_for(fork, side, k))
                except NoMove:
                    continue
                moved += 1
                for _ in range(6):
                    begin = some_begin(rng, (fork[0], (), ()))
                    end = plain_fork_run(told, begin)
                    self.assertEqual(end, same_deed(plain_fork_run(fork, begin), side, k))
                    ends[end[:2]] = ends.get(end[:2], 0) + 1
            for _ in range(3):
                begin = some_begin(rng, (fork[0], (), ()))
                one, other = plain_fork_run(fork, begin), plain_fork_run(all_up(fork), begin)
                self.assertEqual(one[:2] + one[3:], other[:2] + other[3:])
                if one[0] == "ended":
                    self.assertEqual(one, other)
        self.assertGreater(moved, 150)
        self.assertEqual(len(ends), 5)


class Loops(unittest.TestCase):
    def test_rounds_laid_over_one_another_come_to_the_same(self):
        rng = random.Random(308)
        ends, over = {}, 0
        for _ in range(300):
            machine = tight_machine(rng)
            loop = some_loop(rng, 6, ("plus", "minus", "less", "pick", "share", "read", "write", "number"))
            papers = rng.choice((None, all_papers((loop[0], loop[1], ()))))
            try:
                beat, rows, _ = least_beat(machine, loop, papers)
            except TooMany:
                continue
            self.assertIs(beat_holds(machine, loop, beat, rows, papers), True)
            over += max(rows, default=0) >= beat
            for rounds in (0, 1, 2, 3, rng.randint(4, 11), 12):
                begin = some_begin(rng, loop)
                told = rounds_run(machine, loop, beat, rows, begin, rounds)
                self.assertEqual(told, loop_run(loop, begin, rounds))
                self.assertEqual(told, run_rounds(loop, begin, rounds))
                ends[told[0]] = ends.get(told[0], 0) + 1
        self.assertGreater(over, 40)
        self.assertGreater(min(ends["ended"], ends["fault"]), 100)

    def test_the_least_beat_is_told_with_a_tree_for_each_lesser_one(self):
        rng = random.Random(309)
        split = 0
        for _ in range(300):
            machine, loop = tight_machine(rng), rng.choice((some_loop(rng, 3), ringed_loop(rng, 3)))
            beat, rows, trees = least_beat(machine, loop)
            self.assertIs(beat_holds(machine, loop, beat, rows), True)
            self.assertEqual(len(trees), beat - 1)
            for lesser, tree in enumerate(trees, 1):
                self.assertIs(beat_tree_holds(machine, loop, lesser, tree), True)
                self.assertTrue(beat_tree_slowly(machine, loop, lesser, tree))
                self.assertFalse(has_beat_rows(machine, loop, lesser))
                split += tree[0] == "first"
        self.assertGreater(split, 10)


if __name__ == "__main__":
    unittest.main()
