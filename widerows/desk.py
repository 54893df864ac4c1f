"""A desk at which rows of words are said and answered (26)."""

from widerows.boxes import least_boxes
from widerows.deeds import is_stretch
from widerows.errors import NoText, TooMany
from widerows.fewest import fewest_rows
from widerows.greedy import laid
from widerows.machines import is_machine
from widerows.plain import plain_run
from widerows.rows import length_of, rows_hold
from widerows.stores import is_store
from widerows.texts import deed_in, figures, numbers_in, row_of, unit_in


def begin_in(stretch, words):
    """The begin of a stretch that words are written for, or NoText."""
    if words.count("/") != 1:
        raise NoText("worths and places must be parted by one sign")
    at = words.index("/")
    worths, cells = numbers_in(words[:at]), numbers_in(words[at + 1:])
    # Where a place has no number behind it, the last one is left over, and it is no store.
    store = tuple([cells[place:place + 2] for place in range(0, len(cells), 2)])
    if len(worths) != stretch[0] or not is_store(store):
        raise NoText("the numbers make no begin")
    return (worths, store)


def end_row(end):
    """The end of a run as a row."""
    word, told, store = end
    first = row_of((word,), told if word == "ended" else (told,))
    return row_of((first, "/"), [number for cell in store for number in cell])


class Desk:
    """A machine and a stretch, asked and changed by rows of words."""

    def __init__(self, machine, stretch):
        self.machine = machine
        self.stretch = stretch

    def now(self):
        """(machine, stretch) as they are."""
        return (self.machine, self.stretch)

    def say(self, text):
        """The answer to a text of one row, or NoText, and then nothing is changed."""
        if not isinstance(text, str):
            raise NoText("this is no text")
        words = text.split(" ")
        word, rest = words[0], words[1:]
        if word in ("laid", "fewest", "drop") and not rest:
            return self.say_alone(word)
        if word in ("hold", "boxes"):
            return self.say_rows(word, numbers_in(rest))
        if word == "run":
            return end_row(plain_run(self.stretch, begin_in(self.stretch, rest)))
        if word == "unit":
            return self.change_unit(unit_in(words))
        if word == "add":
            givens, deeds, outs = self.stretch
            return self.change_stretch((givens, deeds + (deed_in(rest),), outs))
        if word == "outs":
            return self.change_stretch(self.stretch[:2] + (numbers_in(rest),))
        raise NoText("there is no such row")

    def say_alone(self, word):
        """The answer to a word that stands alone."""
        if word == "laid":
            return row_of((), laid(self.machine, self.stretch))
        if word == "fewest":
            return self.say_fewest()
        givens, deeds, outs = self.stretch
        if not deeds:
            raise NoText("there is no deed to drop")
        return self.change_stretch((givens, deeds[:-1], outs))

    def say_fewest(self):
        """The length of the fewest rows, or many where they are refused."""
        try:
            rows = fewest_rows(self.machine, self.stretch)[0]
        except TooMany:
            return "many"
        return figures(length_of(self.machine, self.stretch, rows))

    def say_rows(self, word, rows):
        """Whether rows hold, or, asked for boxes, their least number."""
        if not rows_hold(self.machine, self.stretch, rows):
            return "no"
        return "yes" if word == "hold" else figures(least_boxes(self.machine, self.stretch, rows)[0])

    def change_unit(self, unit):
        """So many units of a name from now on."""
        units, works = self.machine
        if unit[0] not in dict(units):
            raise NoText("the machine has no such unit")
        machine = (tuple([unit if old[0] == unit[0] else old for old in units]), works)
        if not is_machine(machine):
            raise NoText("there can't be so many units")
        self.machine = machine
        return "ok"

    def change_stretch(self, stretch):
        """Another stretch from now on."""
        if not is_stretch(stretch):
            raise NoText("this makes no stretch")
        self.stretch = stretch
        return "ok"
