"""Papers of unlike places (8, 9)."""

import itertools
import random
import unittest

from tests.samples import ODD, PLACING, run_one_by_one, some_begin, some_stretch, swapped
from widerows.forms import form_alone
from widerows.unlike import all_papers, form_followed, paper_holds, papers_hold, unlike_paper

BIG = 10 ** 39 + 7


def written(worth, n):
    return ("write", worth, n, 0)


class PaperHolds(unittest.TestCase):
    # Worths: 0, 1 given; 2 is 4; 3 is 0 times 4; 4 is 3 plus 6; 5 is 1 minus 2; 6 is 0 times 1; deeds at 6 on.
    head = (("number", 4), ("times", 0, 2), ("plus", 3, 2), ("minus", 1, 2), ("times", 0, 1))
    lines = (
        (2, (4, ())), (3, (0, ((0, 4),))), (4, (4, ((0, 4),))), (5, (-4, ((1, 1),))),
    )

    def holds(self, one, other, paper):
        return paper_holds((2, self.head + (one, other), ()), 5, 6, paper)

    def yes(self, one, other, paper):
        self.assertIs(self.holds(one, other, paper), True, paper)

    def no(self, one, other, paper):
        self.assertIs(self.holds(one, other, paper), False, repr(paper)[:200])

    def test_measure_0(self):
        self.yes(written(0, 0), written(0, 1), (0, ()))
        self.yes(("read", 0, 5), written(0, 1), (0, ()))
        self.yes(written(0, 5), ("read", 0, 1), (0, ()))
        self.no(written(0, 1), written(0, 1), (0, ()))
        self.no(written(0, 0), written(1, 1), (0, ()))
        self.yes(written(2, 0), written(2, -7), (0, ()))
        self.no(written(4, 0), written(3, 0), (0, ()))
        self.yes(written(4, 0), written(3, 0), (0, self.lines))
        self.no(written(4, 0), written(3, 4), (0, self.lines))
        self.yes(written(6, 3), written(6, 4), (0, ()))

    def test_measure_from_2_on(self):
        self.yes(written(3, 0), written(4, 1), (4, self.lines))
        self.yes(written(3, 0), written(4, 1), (2, self.lines))
        self.yes(written(3, 0), written(2, 2), (4, self.lines))
        self.no(written(3, 0), written(2, 2), (2, self.lines))
        self.no(written(3, 0), written(2, 4), (4, self.lines))
        self.no(written(3, 0), written(2, 1), (3, self.lines))
        self.no(written(3, 0), written(2, 1), (8, self.lines))
        self.yes(written(0, 0), written(0, 1), (2, ()))
        self.yes(written(0, 0), written(0, -3), (2, ()))
        self.yes(written(0, 0), written(0, 6), (4, ()))
        self.no(written(0, 0), written(0, 6), (3, ()))
        self.yes(written(0, 0), written(0, 1), (BIG, ()))
        self.no(written(0, 0), written(0, BIG), (BIG, ()))
        self.no(written(3, 0), written(2, 2), (0, self.lines))

    def test_no_such_measures(self):
        for measure in (1, -1, -2, -4, True, False, None, "0", "2", (), (2,), [], [2], {}, -BIG):
            self.no(written(0, 0), written(0, 1), (measure, ()))
            self.no(written(3, 0), written(4, 1), (measure, self.lines))

    def test_lines_that_follow_one_by_one(self):
        near = (written(0, 0), written(0, 1))
        for many in range(len(self.lines) + 1):
            self.yes(*near, (0, self.lines[:many]))
        # Without the lines ahead of it a worth stands alone in those behind it.
        self.yes(*near, (0, ((4, (0, ((2, 1), (3, 1)))),)))
        self.yes(*near, (0, ((2, (4, ())), (4, (4, ((3, 1),))))))
        self.yes(*near, (0, ((3, (0, ((3, 1),))), (4, (0, ((2, 1), (3, 1)))))))
        self.yes(*near, (0, ((5, (0, ((1, 1), (2, -1)))),)))

    def test_lines_that_do_not_follow(self):
        near = (written(0, 0), written(0, 1))
        for line in ((2, (5, ())), (2, (-4, ())), (2, (4, ((0, 1),))), (2, (0, ())), (3, (0, ((0, 4),))), (3, (0, ())),
                     (4, (4, ((0, 4),))), (4, (4, ((3, 1),))), (5, (-4, ((1, 1),))), (5, (0, ((1, -1), (2, 1)))),
                     (5, (0, ((1, 1), (2, 1)))), (6, (0, ((0, 1), (1, 1)))), (6, (0, ((0, 4),))), (0, (0, ())),
                     (0, (0, ((1, 1),))), (1, (1, ((1, 1),))), (0, (0, ((0, 2),))), (0, (0, ((0, -1),)))):
            self.no(*near, (0, (line,)))
        self.no(*near, (0, ((2, (4, ())), (4, (0, ((2, 1), (3, 1)))))))
        self.no(*near, (0, ((2, (0, ((2, 1),))), (3, (0, ((0, 4),))))))

    def test_a_line_that_tells_the_worth_alone(self):
        near = (written(0, 0), written(0, 1))
        for worth in range(7):
            self.yes(*near, (0, ((worth, form_alone(worth)),)))
        self.yes(*near, (0, tuple((worth, form_alone(worth)) for worth in range(7))))
        self.no(written(4, 0), written(3, 0), (0, tuple((worth, form_alone(worth)) for worth in range(7))))

    def test_a_line_for_a_write_or_a_keep(self):
        near = (written(0, 0), written(0, 1))
        for worth in (7, 8):
            self.no(*near, (0, ((worth, form_alone(worth)),)))
            self.no(*near, (0, ((worth, (0, ())),)))
        deeds = (("keep", 0, 0),) + near
        self.assertIs(paper_holds((1, deeds, ()), 1, 2, (0, ())), True)
        self.assertIs(paper_holds((1, deeds, ()), 1, 2, (0, ((1, form_alone(1)),))), False)
        self.yes(written(0, 0), ("read", 0, 1), (0, ((8, form_alone(8)),)))

    def test_a_worth_that_is_not_there(self):
        near = (written(0, 0), written(0, 1))
        for worth in (9, 10, -1, -2, BIG, -BIG):
            self.no(*near, (0, ((worth, form_alone(worth)),)))
            self.no(*near, (0, ((worth, (0, ())),)))
        self.no(*near, (0, ((2, (4, ((99, 1),))),)))

    def test_lines_behind_both_deeds(self):
        deeds = (written(0, 0), written(0, 1), ("number", 3), ("plus", 0, 3))
        self.assertIs(paper_holds((1, deeds, ()), 0, 1, (0, ((3, (3, ())), (4, (3, ((0, 1),)))))), True)
        self.assertIs(paper_holds((1, deeds, ()), 0, 1, (0, ((3, (3, ())), (4, (4, ((0, 1),)))))), False)

    def test_a_given_follows_from_no_deed(self):
        deeds = (written(0, 0), written(0, 1), ("number", 5))
        self.assertIs(paper_holds((1, deeds, ()), 0, 1, (0, ((3, (5, ())),))), True)
        self.assertIs(paper_holds((1, deeds, ()), 0, 1, (0, ((0, (5, ())),))), False)
        self.assertIs(paper_holds((1, deeds, ()), 0, 1, (0, ((0, form_alone(0)), (3, (5, ()))))), True)

    def test_worths_of_lines_of_several_kinds(self):
        near = (written(0, 0), written(0, 1))
        for one, other in itertools.permutations((None, 2, "2", (), [], {}, True), 2):
            self.no(*near, (0, ((one, (4, ())), (other, (4, ())))))
            self.no(*near, (0, ((5, (0, ((one, 1), (other, -1)))),)))

    def test_lines_and_terms_that_do_not_rise(self):
        near = (written(0, 0), written(0, 1))
        self.no(*near, (0, (self.lines[1], self.lines[0])))
        self.no(*near, (0, (self.lines[0], self.lines[0])))
        self.no(*near, (0, (self.lines[0], (2, form_alone(2)))))
        self.no(*near, (0, ((0, form_alone(0)), (0, form_alone(0)))))
        self.no(*near, (0, ((4, (0, ((3, 1), (2, 1)))),)))
        self.no(*near, (0, ((5, (0, ((1, 1), (1, 1), (2, -1)))),)))
        self.no(*near, (0, ((2, (4, ((0, 0),))),)))
        self.no(*near, (0, ((4, (0, ((0, 0), (2, 1), (3, 1)))),)))
        self.no(*near, (0, ((0, (0, ((0, 1), (1, 0)))),)))

    def test_made_otherwise(self):
        near = (written(0, 0), written(0, 1))
        for thing in ODD:
            self.no(*near, thing)
            self.no(*near, (thing, thing))
            self.no(*near, (0, (thing,)))
            self.no(*near, (0, ((2, thing),)))
            if thing != 2:
                self.no(*near, (0, ((thing, (4, ())),)))
            self.no(*near, (0, ((2, (thing, thing)),)))
            self.no(*near, (0, ((2, (4, (thing,))),)))
        for paper in ([0, ()], (0, []), (0, ([2, (4, ())],)), (0, ((2, [4, ()]),)), (0, ((2, (4, [])),)), (0,), (0, (), ()),
                      (0, ((3, (0, ([3, 1],))),)), (0, ((3, (False, ((3, 1),))),)), (0, ((3, (0, ((3, True),))),)),
                      (0, ((True, (0, ((1, 1),))),)), (0, ((0, (0, ((False, 1),))),)), (0, ((2, (4, ()), 0),)), (0, ((2,),)),
                      (0, {2: (4, ())}), (0, "ab"), (0, None), None, "", (0, ((2, (4, (), ())),)), (0, ((2, (4,)),))):
            self.no(*near, paper)

    def test_two_reads(self):
        self.no(("read", 0, 0), ("read", 0, 1), (0, ()))
        self.no(("read", 3, 0), ("read", 4, 1), (4, self.lines))

    def test_deeds_that_are_no_reads_or_writes(self):
        others = (("number", 1), ("plus", 0, 1), ("minus", 0, 1), ("times", 0, 1), ("less", 0, 1), ("pick", 0, 1, 1),
                  ("share", 0, 1), ("keep", 0, 1), ("fetch", 1))
        for other in others:
            for place in (written(0, 9), ("read", 0, 9)):
                self.no(place, other, (0, ()))
                self.no(other, place, (0, ()))
            self.no(other, other, (0, ()))

    def test_deeds_not_ahead_or_not_there(self):
        stretch = (1, (written(0, 0), written(0, 1), written(0, 2)), ())
        for i, j in itertools.product(range(-4, 6), repeat=2):
            self.assertIs(paper_holds(stretch, i, j, (0, ())), 0 <= i < j < 3)

    def test_numbers_of_forty_figures(self):
        wide = 10 ** 40 - 1
        deeds = (("number", wide), ("times", 0, 1), written(2, 1), written(2, wide))
        lines = ((1, (wide, ())), (2, (0, ((0, wide),))))
        self.assertIs(paper_holds((1, deeds, ()), 2, 3, (0, ())), True)
        self.assertIs(paper_holds((1, deeds, ()), 2, 3, (wide, lines)), True)
        self.assertIs(paper_holds((1, deeds, ()), 2, 3, (wide - 1, lines)), False)
        self.assertIs(paper_holds((1, deeds, ()), 2, 3, (wide - 2, lines)), True)

    def test_times_by_nought_and_both_without_terms(self):
        deeds = (("minus", 0, 0), ("times", 0, 1), ("number", 3), ("times", 3, 3), written(2, 0), written(4, 0))
        lines = ((1, (0, ())), (2, (0, ())), (3, (3, ())), (4, (9, ())))
        self.assertIs(paper_holds((1, deeds, ()), 4, 5, (0, lines)), True)
        self.assertIs(paper_holds((1, deeds, ()), 4, 5, (3, lines)), False)
        self.assertIs(paper_holds((1, deeds, ()), 4, 5, (0, lines[1:])), False)

    def test_times_with_terms_on_both_sides(self):
        self.no(written(6, 0), written(0, 1), (0, ((6, (0, ((0, 4),))),)))
        deeds = (("number", 2), ("times", 1, 0), ("times", 2, 0), written(2, 0), written(3, 1))
        self.assertIs(paper_holds((1, deeds, ()), 3, 4, (2, ((1, (2, ())), (2, (0, ((0, 2),)))))), False)


def every_choice(stretch):
    """The lines of every choice of worths taken apart, as 8 lets them be told."""
    givens, deeds, outs = stretch
    choices = [{}]
    for k, deed in enumerate(deeds):
        more = []
        for lines in choices:
            form = form_followed(deed, lines)
            if form is not None:
                more.append({**lines, givens + k: form})
        choices += more
    return [tuple(sorted(lines.items())) for lines in choices]


class Searching(unittest.TestCase):
    def test_tells_a_paper(self):
        head = PaperHolds.head
        for one, other, measure in ((written(3, 0), written(4, 1), 0), (written(3, 0), written(2, 2), 4),
                                    (written(0, 0), ("read", 0, 1), 0), (("read", 0, 1), written(0, 0), 0)):
            stretch = (2, head + (one, other), ())
            paper = unlike_paper(stretch, 5, 6)
            self.assertEqual(paper[0], measure)
            self.assertIs(paper_holds(stretch, 5, 6, paper), True)

    def test_none_where_none_holds(self):
        head = PaperHolds.head
        for one, other in ((written(0, 0), written(0, 0)), (written(0, 0), written(1, 0)), (written(3, 0), written(4, -4)),
                           (written(3, 0), written(2, 0)), (written(6, 0), written(3, 1)), (written(0, 1), ("read", 6, 2)),
                           (("read", 0, 0), ("read", 0, 1)), (("share", 0, 1), written(0, 1)), (("keep", 0, 1), written(0, 0))):
            self.assertIsNone(unlike_paper((2, head + (one, other), ()), 5, 6))

    def test_none_of_deeds_turned_about_or_not_there(self):
        stretch = (1, (written(0, 0), written(0, 1)), ())
        self.assertIsNotNone(unlike_paper(stretch, 0, 1))
        for i, j in ((1, 0), (0, 0), (1, 1), (0, 2), (-1, 1), (-2, -1)):
            self.assertIsNone(unlike_paper(stretch, i, j))

    def test_tells_only_lines_that_the_places_lean_on(self):
        deeds = (("number", 4), ("number", 9), ("plus", 0, 1), ("plus", 0, 2), written(3, 0), written(0, 0))
        self.assertEqual(unlike_paper((1, deeds, ()), 4, 5), (0, ((1, (4, ())), (3, (4, ((0, 1),))))))

    def test_measure_is_the_greatest(self):
        deeds = (("number", 6), ("times", 0, 2), ("number", 15), ("times", 1, 4), ("minus", 3, 5), written(6, 0))
        for n, unlike in ((1, True), (2, True), (3, False), (4, True), (-3, False), (0, False), (6, False)):
            stretch = (2, deeds + (written(2, n - 6),), ())
            paper = unlike_paper(stretch, 5, 6)
            self.assertEqual(paper is not None, unlike, n)
            if unlike:
                self.assertEqual(paper[0], 3)
                self.assertTrue(paper_holds(stretch, 5, 6, paper))

    def test_no_choice_of_lines_and_measure_holds_where_none_is_told(self):
        rng = random.Random(90)
        counts = {True: 0, False: 0}
        for _ in range(1200):
            stretch = some_stretch(rng, most=8, words=PLACING, low=-4, high=6)
            deeds = stretch[1]
            choices = every_choice(stretch)
            for i, j in itertools.combinations(range(len(deeds)), 2):
                paper = unlike_paper(stretch, i, j)
                if paper is not None:
                    self.assertTrue(paper_holds(stretch, i, j, paper))
                found = any(
                    paper_holds(stretch, i, j, (measure, lines))
                    for lines in choices for measure in (0, 2, 3, 4, 5, 6, 7, 8, 9, 12, 16, 25, 36)
                ) if deeds[i][0] in ("read", "write") and deeds[j][0] in ("read", "write") else False
                self.assertTrue(paper is not None or not found, (stretch, i, j))
                counts[paper is not None] += 1
        self.assertGreater(min(counts.values()), 120)

    def test_places_are_unlike_for_every_begin(self):
        rng = random.Random(91)
        looked = 0
        for _ in range(800):
            stretch = some_stretch(rng, most=12, words=PLACING)
            papers = all_papers(stretch)
            for _ in range(12 if papers else 0):
                end, worths = run_one_by_one(stretch, some_begin(rng, stretch))
                for i, j, paper in papers:
                    one, other = stretch[1][i], stretch[1][j]
                    self.assertNotEqual(worths[one[1]] + one[2], worths[other[1]] + other[2])
                    looked += 1
        self.assertGreater(looked, 2000)

    def test_whatever_paper_is_let_by_places_are_unlike(self):
        rng = random.Random(92)
        let_by = 0
        for _ in range(1500):
            stretch = some_stretch(rng, most=10, words=PLACING)
            begins = [some_begin(rng, stretch) for _ in range(10)]
            runs = [run_one_by_one(stretch, begin)[1] for begin in begins]
            for i, j, paper in all_papers(stretch):
                other_paper = swapped(paper, rng, ODD[:9] + (3, 4, 5))
                if not paper_holds(stretch, i, j, other_paper):
                    continue
                let_by += 1
                one, other = stretch[1][i], stretch[1][j]
                for worths in runs:
                    self.assertNotEqual(worths[one[1]] + one[2], worths[other[1]] + other[2])
        self.assertGreater(let_by, 30)


class AllPapers(unittest.TestCase):
    def test_all_pairs_rising(self):
        rng = random.Random(93)
        for _ in range(300):
            stretch = some_stretch(rng, most=14, words=PLACING)
            expected = []
            for i, j in itertools.combinations(range(len(stretch[1])), 2):
                paper = unlike_paper(stretch, i, j)
                if paper is not None:
                    expected.append((i, j, paper))
            papers = all_papers(stretch)
            self.assertEqual(papers, tuple(expected))
            self.assertIs(papers_hold(stretch, papers), True)
            self.assertEqual(all_papers(stretch), papers)

    def test_one_by_hand(self):
        deeds = (written(0, 0), written(0, 1), ("read", 0, 2), ("read", 0, 1), written(1, 0))
        self.assertEqual([entry[:2] for entry in all_papers((2, deeds, ()))], [(0, 1), (0, 2), (0, 3), (1, 2)])
        self.assertEqual(all_papers((0, (), ())), ())

    def test_of_the_greatest_stretch(self):
        head = (("number", 1000000), ("times", 0, 1), ("times", 1, 1), ("times", 3, 3), ("times", 4, 4), ("times", 5, 5),
                ("times", 6, 6))
        deeds = head + tuple(written(7, n) for n in range(17))
        papers = all_papers((1, deeds, ()))
        self.assertEqual(len(papers), 17 * 16 // 2)
        self.assertIs(papers_hold((1, deeds, ()), papers), True)


class PapersHold(unittest.TestCase):
    stretch = (1, (written(0, 0), written(0, 1), ("read", 0, 2), ("read", 0, 3), ("number", 1), written(0, 2)), ())
    good = (0, ())

    def told(self, papers, truth):
        self.assertIs(papers_hold(self.stretch, papers), truth, repr(papers)[:200])

    def entries(self, *pairs):
        return tuple((i, j, self.good) for i, j in pairs)

    def test_none_some_all(self):
        self.told((), True)
        pairs = [entry[:2] for entry in all_papers(self.stretch)]
        self.assertEqual(pairs, [(0, 1), (0, 2), (0, 3), (0, 5), (1, 2), (1, 3), (1, 5), (3, 5)])
        for many in range(len(pairs) + 1):
            for chosen in itertools.combinations(pairs, many):
                self.told(self.entries(*chosen), True)

    def test_not_rising(self):
        self.told(self.entries((0, 2), (0, 1)), False)
        self.told(self.entries((1, 2), (0, 3)), False)
        self.told(self.entries((0, 1), (0, 1)), False)
        self.told(self.entries((0, 1), (0, 2), (0, 1)), False)
        self.told(((0, 1, (0, ())), (0, 1, (2, ()))), False)

    def test_pairs_that_have_none(self):
        for pair in ((1, 0), (2, 1), (0, 0), (2, 3), (2, 5), (0, 4), (4, 5), (0, 6), (6, 7), (-1, 0), (-2, 1), (0, BIG)):
            self.told(self.entries(pair), False)
            self.told(self.entries((0, 1)) + self.entries(pair), False)

    def test_a_paper_that_does_not_hold_among_others(self):
        self.told(((0, 1, (0, ())), (0, 2, (2, ())), (0, 3, (0, ()))), False)
        self.told(((0, 1, (0, ())), (0, 2, (3, ())), (0, 3, (0, ()))), True)
        self.told(((0, 1, None),), False)

    def test_papers_of_deeds_exchanged(self):
        deeds = (("number", 2), ("times", 0, 1), written(2, 0), written(2, 1), written(0, 5))
        stretch = (1, deeds, ())
        self.assertEqual([entry[:2] for entry in all_papers(stretch)], [(2, 3)])
        paper = all_papers(stretch)[0][2]
        self.assertIs(papers_hold(stretch, ((2, 3, paper),)), True)
        self.assertIs(papers_hold(stretch, ((2, 4, paper),)), False)
        self.assertIs(papers_hold(stretch, ((3, 4, paper),)), False)
        self.assertIs(papers_hold(stretch, ((3, 2, paper),)), False)

    def test_of_anything(self):
        for thing in ODD:
            if thing is not None and thing != ():
                self.told(thing, False)
            self.told((thing,), False)
            self.told(((0, 1, thing),), False)
            self.told(((thing, 1, self.good),), thing == 0 and type(thing) is int)
            self.told(((0, thing, self.good),), type(thing) is int and thing in (1, 2))
        for papers in ([], [(0, 1, self.good)], ([0, 1, self.good],), ((0, 1, [0, ()]),), ((0, 1),), ((0, 1, self.good, 0),),
                       ((False, 1, self.good),), ((0, True, self.good),), {(0, 1): self.good}, "", 0, ((0, 1, self.good), None)):
            self.told(papers, False)

    def test_many_parts(self):
        self.told(self.entries(*[(0, k) for k in range(1, 4000)]), False)
        self.told((((0, 1, self.good),) * 4000), False)

    def test_by_chance_never_an_error(self):
        rng = random.Random(94)
        for _ in range(1500):
            stretch = some_stretch(rng, most=10, words=PLACING)
            thing = all_papers(stretch)
            for _ in range(rng.randint(1, 3)):
                thing = swapped(thing, rng, ODD[:30])
            self.assertIn(papers_hold(stretch, () if thing is None else thing), (True, False))
