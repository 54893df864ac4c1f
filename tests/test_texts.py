"""A machine and a stretch written and read (25)."""

import copy
import random
import re
import unittest

from tests.samples import MIXED, ODD, WIDE, WORDS, machine_with, some_machine, some_stretch
from widerows.deeds import is_stretch
from widerows.errors import NoText
from widerows.machines import is_machine
from widerows.texts import figures, read, show

STRETCH = (2, (
    ("number", -12), ("plus", 0, 1), ("minus", 2, 3), ("times", 4, 4), ("less", 0, 5), ("pick", 6, 0, 1), ("share", 7, 2),
    ("read", 8, -3), ("write", 9, 0, 1), ("keep", 9, 4), ("fetch", 4)), (12, 0, 9))

TEXT = """unit alu 2
unit mul 1
unit mem 1
unit shelf 3
work number alu 1 1
work plus alu 1 2
work minus alu 2 1
work times mul 2 4
work less alu 2 2
work pick alu 3 1
work share mul 4 6
work read mem 1 3
work write mem 2 1
work keep shelf 1 4
work fetch shelf 6 5
givens 2
number -12
plus 0 1
minus 2 3
times 4 4
less 0 5
pick 6 0 1
share 7 2
read 8 -3
write 9 0 1
keep 9 4
fetch 4
outs 12 0 9"""


def read_slowly(text):
    """(machine, stretch), or None, by a pattern for the whole text and the checkers of machines and stretches."""
    number = r"(?:0|-?[1-9][0-9]{0,19})"
    word = "[^ \n]*"
    works = "\n".join(f"work {kind} {word} {number} {number}" for kind in WORDS)
    pattern = rf"(?:unit {word} {number}\n)*{works}\ngivens {number}\n(?:{word}(?: {number})*\n)*?outs(?: {number})*"
    if not isinstance(text, str) or not re.fullmatch(pattern, text):
        return None
    rows = [row.split(" ") for row in text.split("\n")]
    at = [row[0] for row in rows].index("givens")
    numbers = lambda words: tuple(int(part) for part in words)
    machine = (tuple((row[1], int(row[2])) for row in rows[:at - 11]), tuple((row[2],) + numbers(row[3:]) for row in rows[at - 11:at]))
    stretch = (int(rows[at][1]), tuple((row[0],) + numbers(row[1:]) for row in rows[at + 1:-1]), numbers(rows[-1][1:]))
    return (machine, stretch) if is_machine(machine) and is_stretch(stretch) else None


class Show(unittest.TestCase):
    def test_written_out(self):
        self.assertEqual(show(MIXED, STRETCH), TEXT)

    def test_where_there_are_none(self):
        text = show(machine_with((("u", 6),), holds=6, comes=5), (0, (), ()))
        works = [f"work {kind} u 6 5" for kind in WORDS]
        self.assertEqual(text, "\n".join(["unit u 6"] + works + ["givens 0", "outs"]))

    def test_numbers(self):
        for number in (0, 1, -1, 9, 10, -10, 1000000, -1000000, 10 ** 19, 10 ** 20 - 1, 1 - 10 ** 20, 10 ** 60, 10 ** 60 + 7, -10 ** 130):
            self.assertEqual(figures(number), str(number))
            self.assertIn(f"\nnumber {number}\n", show(WIDE, (0, (("number", number),), ())))
        great = 10 ** 5000 + 10 ** 60 + 3
        self.assertEqual(figures(great), "1" + "0" * 4939 + "1" + "0" * 59 + "3")
        self.assertEqual(figures(-great), "-" + figures(great))


class Read(unittest.TestCase):
    def refused(self, text):
        with self.assertRaises(NoText, msg=repr(text)[:200]):
            read(text)

    def test_written_out(self):
        self.assertEqual(read(TEXT), (MIXED, STRETCH))

    def test_what_is_written_is_read_as_the_same(self):
        rng = random.Random(250)
        for _ in range(400):
            machine = some_machine(rng)
            stretch = some_stretch(rng, 24, low=-1000000, high=1000000)
            text = show(machine, stretch)
            self.assertEqual(read(text), (machine, stretch))
            self.assertEqual(show(*read(text)), text)
            self.assertEqual(read_slowly(text), (machine, stretch))

    def test_great_numbers(self):
        for number in (10 ** 19, 10 ** 20 - 1, 1 - 10 ** 20, -1000000, 0):
            stretch = (10 ** 19, (("number", number), ("read", 0, number), ("fetch", abs(number))), (10 ** 19 - 1,))
            self.assertEqual(read(show(WIDE, stretch)), (WIDE, stretch))

    def test_names_that_are_words(self):
        machine = machine_with((("unit", 1), ("work", 2), ("givens", 3), ("outs", 4), ("number", 5)), unit="givens", plus=("outs", 1, 2))
        self.assertEqual(read(show(machine, STRETCH)), (machine, STRETCH))

    def test_numbers_written_otherwise(self):
        for number in ("01", "00", "-0", "-00", "+1", "+0", "-01", "--1", "- 1", "1-", "-", "", "1.0", "1e1", "0x1", "1_0", "one",
                       "1" * 21, "-" + "1" * 21, "0" * 20 + "1", "1,", "\t1", "1\t", "True", "None", "1" * 7000):
            self.refused(TEXT.replace("number -12", "number " + number))
            self.refused(TEXT.replace("read 8 -3", "read 8 " + number))
            self.refused(TEXT.replace("givens 2", "givens " + number))
            self.refused(TEXT.replace("outs 12 0 9", "outs 12 " + number + " 9"))
            self.refused(TEXT.replace("unit alu 2", "unit alu " + number))
            self.refused(TEXT.replace("work plus alu 1 2", "work plus alu " + number + " 2"))
        for number in ("0", "7", "-7", "1" * 20, "-" + "9" * 20, "10"):
            self.assertEqual(read(TEXT.replace("number -12", "number " + number))[1][1][0], ("number", int(number)))

    def test_blanks_and_line_ends(self):
        self.refused("")
        self.refused(TEXT + "\n")
        self.refused("\n" + TEXT)
        self.refused(TEXT + " ")
        self.refused(" " + TEXT)
        rows = TEXT.split("\n")
        for at, row in enumerate(rows):
            for worse in (row + " ", " " + row, row.replace(" ", "  ", 1), row.replace(" ", "\t", 1), row.replace(" ", "", 1),
                          row + "\n", row + "\r", "\n" + row, row + "\t", row.replace(" ", "\n", 1)):
                if worse != row:
                    self.refused("\n".join(rows[:at] + [worse] + rows[at + 1:]))
        for end in ("\r\n", " ", "", "\n\n", "\r", "\x0b", "\x0c", "\u2028"):
            self.refused(end.join(rows))

    def test_rows_missed_or_too_many(self):
        rows = TEXT.split("\n")
        for at, row in enumerate(rows):
            less = "\n".join(rows[:at] + rows[at + 1:])
            more = "\n".join(rows[:at] + [row] + rows[at:])
            if read_slowly(less) is None:
                self.refused(less)
            else:
                self.assertEqual(read(less), read_slowly(less))
            if read_slowly(more) is None:
                self.refused(more)
            else:
                self.assertEqual(read(more), read_slowly(more))
        for many in range(1, len(rows)):
            self.refused("\n".join(rows[:many]))
        # Without the first unit, which works name, and so on.
        for many in range(1, len(rows)):
            self.refused("\n".join(rows[many:]))
        self.refused(TEXT.replace("unit mul 1\n", ""))
        self.refused(TEXT.replace("unit mul 1\n", "unit mul 1\nunit mul 1\n"))
        self.refused(TEXT.replace("givens 2\n", "givens 2\ngivens 2\n"))
        self.refused(TEXT + "\nouts 12")

    def test_rows_out_of_order(self):
        rows = TEXT.split("\n")
        for at in range(len(rows) - 1):
            turned = rows[:at] + [rows[at + 1], rows[at]] + rows[at + 2:]
            text = "\n".join(turned)
            # Two units, or two deeds that don't name each other, may be turned about and make another one.
            if read_slowly(text) is None:
                self.refused(text)
            else:
                self.assertTrue(at < 3 or 16 <= at < 26)
                self.assertEqual(read(text), read_slowly(text))
        self.refused("\n".join(rows[::-1]))
        self.refused("\n".join(rows[4:15] + rows[:4] + rows[15:]))
        self.refused("\n".join(rows[15:] + rows[:15]))

    def test_words_otherwise(self):
        for old in ("unit", "work", "givens", "outs", "number", "plus", "write", "fetch", "alu"):
            for new in (old.upper(), old.capitalize(), old + "s", old[:-1], ""):
                self.refused(TEXT.replace(old, new, 1))
        for old, new in (("plus 0 1", "plus 0"), ("plus 0 1", "plus 0 1 1"), ("plus 0 1", "plus"), ("plus 0 1", "0 1"), ("fetch 4", "fetch"),
                         ("fetch 4", "fetch 4 4"), ("write 9 0 1", "write 9 0"), ("unit alu 2", "unit alu"), ("unit alu 2", "unit 2"),
                         ("unit alu 2", "unit alu 2 2"), ("work plus alu 1 2", "work plus alu 1"), ("work plus alu 1 2", "work plus alu 1 2 3"),
                         ("work plus alu 1 2", "work alu 1 2"), ("work plus alu 1 2", "work plus alu"),
                         ("work plus alu 1 2", "work plus"), ("work plus alu 1 2", "work"), ("work plus alu 1 2", "plus"), ("unit alu 2", "unit"),
                         ("givens 2", "givens"), ("givens 2", "givens 2 2"), ("givens 2", "2"),
                         ("outs 12 0 9", "12 0 9"), ("plus 0 1", "plus 0 alu"), ("plus 0 1", "plus zero 1")):
            self.assertIn(old, TEXT)
            self.refused(TEXT.replace(old, new))

    def test_what_makes_no_machine(self):
        for old, new in (("unit alu 2", "unit alu 0"), ("unit alu 2", "unit alu 7"), ("unit alu 2", "unit alu -1"),
                         ("unit mul 1", "unit alu 1"), ("unit alu 2", "unit Alu 2"), ("unit alu 2", "unit al1 2"),
                         ("unit mul 1", "unit mulmulmul 1"), ("work plus alu 1 2", "work plus alu 0 2"), ("work plus alu 1 2", "work plus alu 7 2"),
                         ("work plus alu 1 2", "work plus alu 1 0"), ("work plus alu 1 2", "work plus alu 1 7"),
                         ("work plus alu 1 2", "work plus no 1 2"), ("work plus alu 1 2", "work minus alu 1 2")):
            self.assertIn(old, TEXT)
            self.refused(TEXT.replace(old, new))
        self.refused("\n".join(TEXT.split("\n")[4:]))

    def test_what_makes_no_stretch(self):
        for old, new in (("givens 2", "givens -1"), ("plus 0 1", "plus 0 3"), ("plus 0 1", "plus -1 0"), ("keep 9 4", "keep 9 -4"),
                         ("keep 9 4", "keep 10 4"), ("fetch 4", "fetch -1"), ("outs 12 0 9", "outs 13"), ("outs 12 0 9", "outs 10"),
                         ("outs 12 0 9", "outs -1"), ("fetch 4", "jump 4"), ("givens 2", "givens 1"), ("givens 2", "givens 0")):
            self.assertIn(old, TEXT)
            self.refused(TEXT.replace(old, new))

    def test_things_that_are_no_texts(self):
        before = copy.deepcopy(ODD)
        for thing in ODD:
            self.refused(thing)
            self.refused([thing])
            self.refused((TEXT, thing))
        for thing in (b"unit", [TEXT], (TEXT,), {TEXT: TEXT}, TEXT.split("\n"), tuple(TEXT.split("\n")), (MIXED, STRETCH)):
            self.refused(thing)
        self.assertEqual(ODD, before)

    def test_long_texts(self):
        for text in ("\n" * 8000, " " * 8000, "unit a 1\n" * 880, "outs 0 " * 1100, "givens\n" * 1000, "1" * 8000, "-" * 8000,
                     TEXT + " 0" * 3700, "work plus alu 1 1\n" * 400):
            if read_slowly(text) is None:
                self.refused(text)
            else:
                self.assertEqual(read(text), read_slowly(text))

    def test_signs_swapped(self):
        rng = random.Random(251)
        told = {True: 0, False: 0}
        signs = "0123456789 -\n\tabcunitworkgivensouts+~."
        for _ in range(8000):
            text = TEXT
            for _ in range(rng.randint(1, 2)):
                at = rng.randrange(len(text) + 1)
                cut = rng.choice((0, 0, 1, 1, 1, 2))
                text = text[:at] + rng.choice((rng.choice(signs), rng.choice(signs), "")) + text[at + cut:]
            expected = read_slowly(text)
            told[expected is not None] += 1
            if expected is None:
                self.refused(text)
            else:
                self.assertEqual(read(text), expected)
        self.assertGreater(min(told.values()), 300)


if __name__ == "__main__":
    unittest.main()
