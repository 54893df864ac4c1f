"""A desk at which rows of words are said and answered (26)."""

import copy
import random
import unittest

from tests.samples import MIXED, ODD, WIDE, machine_with, rows_hold_slowly, run_one_by_one, some_begin, some_machine, some_rows, some_stretch
from tests.slow import laid_slowly, length_slowly, lives_slowly, living_in
from tests.test_fewest import HARD
from widerows.boxes import least_boxes
from widerows.deeds import is_stretch
from widerows.desk import Desk
from widerows.errors import NoText, TooMany
from widerows.fewest import fewest_rows
from widerows.machines import is_machine

# Worths: 0 and 1 are given, 2 the sum, 3 a write's number, 4 what is read.
STRETCH = (2, (("plus", 0, 1), ("write", 0, 0, 2), ("read", 0, -1)), (2, 4))
EMPTY = (0, (), ())


class DeskCase(unittest.TestCase):
    def refused(self, desk, text):
        before = desk.now()
        with self.assertRaises(NoText, msg=repr(text)[:200]):
            desk.say(text)
        self.assertEqual(desk.now(), before)

    def says(self, desk, *turns):
        """Says the rows by turns with their answers; None stands for a refusal."""
        for text, answer in zip(turns[::2], turns[1::2]):
            if answer is None:
                self.refused(desk, text)
            else:
                self.assertEqual(desk.say(text), answer, text)


class Asked(DeskCase):
    def test_now(self):
        desk = Desk(MIXED, STRETCH)
        self.assertEqual(desk.now(), (MIXED, STRETCH))
        self.assertIsInstance(desk.now(), tuple)

    def test_laid(self):
        self.says(Desk(machine_with(comes=3), STRETCH), "laid", "0 3 3")
        self.says(Desk(machine_with((("u", 1),), comes=3), STRETCH), "laid", "0 3 4")
        self.says(Desk(WIDE, (0, (("number", 1),), ())), "laid", "0")
        self.says(Desk(WIDE, EMPTY), "laid", "")

    def test_fewest(self):
        self.says(Desk(machine_with(comes=3), STRETCH), "fewest", "6")
        self.says(Desk(WIDE, EMPTY), "fewest", "0")
        # Laid at once it would be twelve.
        machine = machine_with((("u", 1), ("v", 1)), number=("v", 1, 1), plus=("u", 1, 6), fetch=("u", 6, 1))
        self.says(Desk(machine, (0, (("number", 1), ("plus", 0, 0), ("fetch", 1)), ())), "fewest", "7")

    def test_many_where_they_are_refused(self):
        with self.assertRaises(TooMany):
            fewest_rows(*HARD)
        desk = Desk(*HARD)
        self.says(desk, "fewest", "many")
        self.assertEqual(desk.now(), HARD)

    def test_hold(self):
        desk = Desk(machine_with(comes=3), STRETCH)
        self.says(desk, "hold 0 3 3", "yes", "hold 0 2 3", "no", "hold 0 3 2", "no", "hold 5 8 400", "yes", "hold", "no", "hold 0 3", "no",
                  "hold 0 3 3 3", "no", "hold -1 3 3", "no", "hold 0 3 -3", "no", "hold " + "9" * 20, "no",
                  f"hold 0 {'9' * 20} {'9' * 20}", "yes", f"hold 0 {'9' * 20} -{'9' * 20}", "no")
        self.says(Desk(WIDE, EMPTY), "hold", "yes", "hold 0", "no", "hold -5", "no")
        # Without papers: the read may not pass the write, though the places are never one.
        self.says(Desk(WIDE, STRETCH), "hold 1 2 1", "no")

    def test_boxes(self):
        desk = Desk(machine_with(comes=3), STRETCH)
        self.says(desk, "boxes 0 3 3", "2", "boxes 0 2 3", "no", "boxes", "no", "boxes 0 3 -1", "no", "boxes 0 3 3 3", "no")
        self.says(Desk(WIDE, EMPTY), "boxes", "0", "boxes 0", "no")
        self.says(Desk(WIDE, (3, (), (2, 0, 2))), "boxes", "2")

    def test_run(self):
        desk = Desk(MIXED, STRETCH)
        self.says(desk, "run 3 4 /", "ended 7 0 / 3 7", "run 3 4 / 2 9", "ended 7 9 / 2 9 3 7", "run 3 4 / 2 9 3 5 8 1", "ended 7 9 / 2 9 3 7 8 1",
                  "run -3 3 / -4 -6", "ended 0 -6 / -4 -6", "run 0 0 / -5 2", "ended 0 0 / -5 2")
        self.says(Desk(WIDE, EMPTY), "run /", "ended /", "run / 0 7", "ended / 0 7")
        self.says(Desk(WIDE, (1, (), (0, 0))), "run 5 /", "ended 5 5 /", "run -5 / 0 1", "ended -5 -5 / 0 1")

    def test_faults(self):
        desk = Desk(WIDE, (2, (("write", 0, 1, 0), ("number", 3), ("share", 0, 1), ("write", 0, 2, 0)), (4, 3)))
        self.says(desk, "run 7 2 /", "ended 3 3 / 8 7 9 7", "run 7 0 /", "fault 2 / 8 7", "run 0 0 / 1 5", "fault 2 /", "run 7 0 / 9 4", "fault 2 / 8 7 9 4")

    def test_great_numbers_are_told(self):
        deeds = tuple(("times", k, k) for k in range(8))
        for many in (1, 6, 8):
            desk = Desk(WIDE, (1, deeds[:many], (many,)))
            number = 10 ** 20 - 1
            for _ in range(many):
                number *= number
            answer = desk.say("run -" + "9" * 20 + " /")
            self.assertEqual(answer[:6] + answer[-2:], "ended  /")
            told = 0
            # Read part by part, as Python reads only some thousand figures at once.
            for at in range(6, len(answer) - 2, 50):
                part = answer[at:min(at + 50, len(answer) - 2)]
                told = told * 10 ** len(part) + int(part)
            self.assertEqual(told, number)

    def test_what_makes_no_begin(self):
        desk = Desk(WIDE, STRETCH)
        for text in ("run", "run 3 4", "run 3 /", "run 3 4 5 /", "run /", "run 3 4 / 0", "run 3 4 / 0 7 1", "run 3 4 / 0 0", "run 3 4 / 0 7 0 7",
                     "run 3 4 / 1 7 0 7", "run 3 4 / /", "run 3 4 / 0 7 /", "run / 3 4 /", "run 3 / 4", "run 3 4/", "run 3 4 /0 7", "run 3 4 // 0 7",
                     "run 3 four /", "run 3 4 / x 7", "run 03 4 /", "run 3 4 / 0 +7", "run 3 4 / -0 7", "run  3 4 /", "run 3 4 / ", "run 3 4  / 0 7",
                     "run 3 4 /  0 7", " run 3 4 /", "run 3 4 / 0 7\n", "run\n3 4 /", "run " + "1" * 21 + " 4 /"):
            self.refused(desk, text)
        self.says(desk, "run 3 4 /", "ended 7 0 / 3 7")

    def test_answers_by_chance(self):
        rng = random.Random(260)
        seen = {}
        for _ in range(500):
            machine, stretch = some_machine(rng), some_stretch(rng, 6)
            desk = Desk(machine, stretch)
            rows = some_rows(rng, machine, stretch)
            rows = tuple(row - rng.choice((0, 0, 0, 0, 1)) for row in rows)
            holds = all(row >= 0 for row in rows) and rows_hold_slowly(machine, stretch, rows)
            self.says(desk, " ".join(["hold"] + [str(row) for row in rows]), "yes" if holds else "no")
            self.says(desk, "laid", " ".join(str(row) for row in laid_slowly(machine, stretch)))
            boxes = "no"
            if holds:
                lives = lives_slowly(machine, stretch, rows)
                boxes = str(max(len(living_in(lives, row)) for row in range(length_slowly(machine, stretch, rows) + 1)))
                self.assertEqual(boxes, str(least_boxes(machine, stretch, rows)[0]))
            self.says(desk, " ".join(["boxes"] + [str(row) for row in rows]), boxes)
            try:
                fewest = str(length_slowly(machine, stretch, fewest_rows(machine, stretch)[0]))
            except TooMany:
                fewest = "many"
            self.says(desk, "fewest", fewest)
            begin = some_begin(rng, stretch)
            end = run_one_by_one(stretch, begin)[0]
            asked = ["run"] + [str(worth) for worth in begin[0]] + ["/"] + [str(part) for cell in begin[1] for part in cell]
            told = [end[0]] + [str(part) for part in (end[1] if end[0] == "ended" else (end[1],))]
            told += ["/"] + [str(part) for cell in end[2] for part in cell]
            self.says(desk, " ".join(asked), " ".join(told))
            self.assertEqual(desk.now(), (machine, stretch))
            for key in (holds, end[0]):
                seen[key] = seen.get(key, 0) + 1
        self.assertGreater(min(seen.values()), 25)
        self.assertEqual(len(seen), 4)


class Changed(DeskCase):
    def test_unit(self):
        desk = Desk(MIXED, STRETCH)
        self.says(desk, "unit mem 6", "ok")
        self.assertEqual(desk.now(), (((("alu", 2), ("mul", 1), ("mem", 6), ("shelf", 3)), MIXED[1]), STRETCH))
        self.says(desk, "unit mem 1", "ok")
        self.assertEqual(desk.now(), (MIXED, STRETCH))
        for text in ("unit mem 0", "unit mem 7", "unit mem -1", "unit new 1", "unit Mem 1", "unit mem", "unit 1", "unit", "unit mem 1 1", "unit mem 01",
                     "unit mem +1", "unit mem one", "unit  mem 1", "unit mem  1", "unit mem 1 ", "unit  1"):
            self.refused(desk, text)

    def test_units_are_seen_by_what_is_asked(self):
        desk = Desk(machine_with((("u", 1),)), (0, (("number", 1),) * 4, ()))
        self.says(desk, "laid", "0 1 2 3", "fewest", "4", "hold 0 0 1 1", "no", "unit u 2", "ok", "laid", "0 0 1 1", "fewest", "2",
                  "hold 0 0 1 1", "yes", "unit u 6", "ok", "laid", "0 0 0 0", "unit u 1", "ok", "laid", "0 1 2 3")

    def test_add(self):
        desk = Desk(WIDE, (1, (), (0,)))
        deeds = (("number", -7), ("plus", 0, 1), ("minus", 2, 0), ("times", 3, 3), ("less", 0, 4), ("pick", 5, 4, 0), ("share", 6, 2), ("read", 7, -4),
                 ("write", 8, 12, 0), ("keep", 7, 3), ("fetch", 3))
        for at, deed in enumerate(deeds):
            self.says(desk, "add " + " ".join(str(part) for part in deed), "ok")
            self.assertEqual(desk.now(), (WIDE, (1, deeds[:at + 1], (0,))))
        for text in ("add", "add ", "add plus", "add plus 0", "add plus 0 0 0", "add plus 0 12", "add plus 0 9", "add plus 0 10", "add plus -1 0",
                     "add jump 0", "add Plus 0 0", "add number", "add number x", "add number 1 2", "add keep 0 -1", "add fetch -1", "add plus 0 00",
                     "add  plus 0 0", "add plus  0 0", "add plus 0 0 ", "add number " + "1" * 21, "add add", "add number 1\nadd number 2", "add 0 0"):
            self.refused(desk, text)
        self.says(desk, "add plus 11 0", "ok", "add number " + "1" * 20, "ok", "add number -" + "1" * 20, "ok")

    def test_drop(self):
        desk = Desk(WIDE, STRETCH)
        # The last one is an out, and so is the first.
        self.says(desk, "drop", None, "outs 2", "ok", "drop", "ok")
        self.assertEqual(desk.now(), (WIDE, (2, STRETCH[1][:2], (2,))))
        self.says(desk, "drop", "ok", "drop", None, "outs 0 1", "ok", "drop", "ok", "drop", None)
        self.assertEqual(desk.now(), (WIDE, (2, (), (0, 1))))
        self.says(Desk(WIDE, EMPTY), "drop", None)
        for text in ("drop 1", "drop ", " drop", "drop\n", "Drop", "drop drop"):
            self.refused(Desk(WIDE, (2, STRETCH[1], ())), text)

    def test_outs(self):
        desk = Desk(WIDE, STRETCH)
        for text, outs in (("outs", ()), ("outs 0", (0,)), ("outs 4 4 2 1", (4, 4, 2, 1))):
            self.says(desk, text, "ok")
            self.assertEqual(desk.now(), (WIDE, STRETCH[:2] + (outs,)))
        for text in ("outs 3", "outs 5", "outs -1", "outs 0 3", "outs x", "outs 00", "outs ", "outs  0", "outs 0 ", "outs 0,1", "outs " + "1" * 20,
                     "outs " + "1" * 21):
            self.refused(desk, text)

    def test_changes_together(self):
        desk = Desk(machine_with((("u", 1),)), (1, (), ()))
        self.says(desk, "add plus 0 0", "ok", "add times 1 1", "ok", "outs 2 1", "ok", "run 3 /", "ended 36 6 /", "drop", None, "outs 1", "ok", "drop", "ok",
                  "run 3 /", "ended 6 /", "add share 0 1", "ok", "outs 2", "ok", "run 0 / 4 4", "fault 1 / 4 4", "laid", "0 1", "unit u 7", None,
                  "boxes 0 1", "2", "fewest", "2")
        self.assertEqual(desk.now(), (machine_with((("u", 1),)), (1, (("plus", 0, 0), ("share", 0, 1)), (2,))))

    def test_changes_by_chance(self):
        rng = random.Random(261)
        told = {}
        for _ in range(150):
            machine, stretch = some_machine(rng), some_stretch(rng, 4)
            desk = Desk(machine, stretch)
            for _ in range(20):
                text, changed = some_change(rng, machine, stretch)
                word = text.split(" ")[0]
                if is_machine(changed[0]) and is_stretch(changed[1]):
                    self.says(desk, text, "ok")
                    machine, stretch = changed
                    told[word, True] = told.get((word, True), 0) + 1
                else:
                    self.refused(desk, text)
                    told[word, False] = told.get((word, False), 0) + 1
                self.assertEqual(desk.now(), (machine, stretch))
        self.assertEqual(len(told), 8)
        self.assertGreater(min(told.values()), 50)


def some_change(rng, machine, stretch):
    """(a row that changes, what it would make), by chance."""
    givens, deeds, outs = stretch
    word = rng.choice(("unit", "add", "drop", "outs"))
    if word == "unit":
        name, many = rng.choice([name for name, _ in machine[0]] + ["none"]), rng.randint(0, 7)
        units = tuple((unit, many if unit == name else old) for unit, old in machine[0])
        return f"unit {name} {many}", ((units if name != "none" else None, machine[1]), stretch)
    if word == "add":
        deed = (rng.choice(("plus", "number", "write", "fetch", "pick")),) + tuple(rng.randint(-1, 6) for _ in range(rng.randint(1, 3)))
        return "add " + " ".join(map(str, deed)), (machine, (givens, deeds + (deed,), outs))
    if word == "drop":
        return "drop", (machine, (givens, deeds[:-1], outs) if deeds else None)
    outs = tuple(rng.randint(0, 6) for _ in range(rng.randint(0, 3)))
    return " ".join(["outs"] + [str(out) for out in outs]), (machine, (givens, deeds, outs))


class Refused(DeskCase):
    def test_what_is_no_such_row(self):
        desk = Desk(WIDE, STRETCH)
        for text in ("", " ", "\n", "lay", "Laid", "LAID", "laid ", " laid", "laid 0", "laid\n", "\nlaid", "laid\nlaid", "laid\t", "fewest ", "fewest 1",
                     "Fewest", "hold 0 3 x", "hold 00 1 1", "hold -0 1 1", "hold +1 1 1", "hold  0 1 1", "hold 0 1 1 ", "hold 0,1,1", "hold ", "hold yes",
                     "hold " + "1" * 21, "hold 1.0", "boxes ", "boxes x", "boxes 0 1 01", "holds 0 1 1", "box 0 1 1", "many", "ok", "yes", "now", "say laid",
                     "givens 2", "work plus u 1 1", "number 1", "plus 0 1", "/", "run", "read", "hold\t0", "keep 0 1"):
            self.refused(desk, text)
        self.says(desk, "laid", "0 1 1")

    def test_anything(self):
        before = copy.deepcopy(ODD)
        desk = Desk(MIXED, STRETCH)
        for thing in ODD:
            self.refused(desk, thing)
            self.refused(desk, [thing])
            self.refused(desk, ("laid", thing))
        for thing in (b"laid", ["laid"], ("laid",), {"laid": 1}, ("hold", 0, 3, 3), 7):
            self.refused(desk, thing)
        self.assertEqual(ODD, before)

    def test_long_rows(self):
        desk = Desk(WIDE, STRETCH)
        for text in ("hold" + " 0" * 3990, "boxes" + " 0" * 3990):
            self.says(desk, text, "no")
        for text in ("run" + " 0" * 3990, "run 0 0 /" + " 0" * 3990, "add plus" + " 0" * 3990, "x" * 8000, " " * 8000, "unit " + "u" * 7000 + " 1", "hold " + "9" * 7990):
            self.refused(desk, text)


class SideBySide(DeskCase):
    def test_two_desks(self):
        one, other = Desk(MIXED, STRETCH), Desk(MIXED, STRETCH)
        machine, stretch = copy.deepcopy(MIXED), copy.deepcopy(STRETCH)
        self.says(one, "unit alu 6", "ok", "outs", "ok", "drop", "ok", "add number 4", "ok")
        self.assertEqual(other.now(), (machine, stretch))
        self.assertEqual((MIXED, STRETCH), (machine, stretch))
        self.says(other, "unit alu 1", "ok", "outs 0", "ok")
        self.assertEqual(one.now()[1], (2, STRETCH[1][:2] + (("number", 4),), ()))
        self.assertEqual(one.now()[0][0][0], ("alu", 6))
        self.assertEqual(other.now()[0][0][0], ("alu", 1))
        third = Desk(*one.now())
        self.says(third, "drop", "ok")
        self.assertEqual(len(one.now()[1][1]), 3)

    def test_the_same_asked_again(self):
        desk = Desk(MIXED, STRETCH)
        for text in ("laid", "fewest", "hold 0 2 3", "boxes 0 2 3", "run 1 2 / 3 4"):
            self.assertEqual(desk.say(text), desk.say(text))
        self.assertIn("say", vars(Desk))
        self.assertIn("now", vars(Desk))


if __name__ == "__main__":
    unittest.main()
