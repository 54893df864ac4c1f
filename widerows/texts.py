"""A machine and a stretch written as rows of words, and read (25)."""

from widerows.deeds import KINDS, is_stretch
from widerows.errors import NoText
from widerows.machines import is_machine

MOST_FIGURES = 20
# Python writes only numbers of some thousand figures at once, so great ones are written part by part.
PART = 10 ** 60
PART_FIGURES = 60


def figures(number):
    """A whole number, however great, in figures."""
    if number < 0:
        return "-" + figures(-number)
    parts = []
    while number >= PART:
        number, part = divmod(number, PART)
        parts.append(str(part).zfill(PART_FIGURES))
    parts.append(str(number))
    return "".join(parts[::-1])


def row_of(words, numbers):
    """A row of words and numbers, parted by one blank."""
    return " ".join(list(words) + [figures(number) for number in numbers])


def show(machine, stretch):
    """A machine and a stretch as a text."""
    units, works = machine
    givens, deeds, outs = stretch
    rows = [row_of(("unit", name), (many,)) for name, many in units]
    rows += [row_of(("work", kind, name), (holds, comes)) for kind, (name, holds, comes) in zip(KINDS, works)]
    rows.append(row_of(("givens",), (givens,)))
    rows += [row_of(deed[:1], deed[1:]) for deed in deeds]
    rows.append(row_of(("outs",), outs))
    return "\n".join(rows)


def number_in(word):
    """The whole number that a word is written for, or NoText."""
    plain = word[1:] if word.startswith("-") else word
    if not 1 <= len(plain) <= MOST_FIGURES or not all("0" <= figure <= "9" for figure in plain):
        raise NoText("a number is missed")
    # A nought ahead is one too many, but for 0 itself, which has no sign.
    if plain.startswith("0") and word != "0":
        raise NoText("a nought stands ahead of a number")
    return int(word)


def numbers_in(words):
    """The tuple of the whole numbers that words are written for, or NoText."""
    return tuple([number_in(word) for word in words])


def deed_in(words):
    """A deed's word and its numbers, whatever they are, or NoText."""
    return tuple(words[:1]) + numbers_in(words[1:])


def unit_in(words):
    """(name, many) of words that say unit, or NoText."""
    if len(words) != 3 or words[0] != "unit":
        raise NoText("a unit is missed")
    return (words[1], number_in(words[2]))


def work_in(kind, words):
    """(name, holds, comes) of words that say the work of a kind, or NoText."""
    if len(words) != 5 or words[0] != "work" or words[1] != kind:
        raise NoText(f"the work of {kind} is missed")
    return (words[2],) + numbers_in(words[3:])


def machine_in(rows):
    """The machine that rows of words are written for, or NoText."""
    many = len(rows) - len(KINDS)
    units = tuple([unit_in(words) for words in rows[:many]])
    machine = (units, tuple([work_in(kind, words) for kind, words in zip(KINDS, rows[many:])]))
    if not is_machine(machine):
        raise NoText("the rows make no machine")
    return machine


def stretch_in(rows):
    """The stretch that rows of words, of which the first one says givens, are written for, or NoText."""
    if len(rows[0]) != 2 or rows[-1][0] != "outs":
        raise NoText("the number of givens or the outs are missed")
    deeds = tuple([deed_in(words) for words in rows[1:-1]])
    stretch = (number_in(rows[0][1]), deeds, numbers_in(rows[-1][1:]))
    if not is_stretch(stretch):
        raise NoText("the rows make no stretch")
    return stretch


def read(text):
    """(machine, stretch) that a text is written for, or NoText of anything else."""
    if not isinstance(text, str):
        raise NoText("this is no text")
    rows = [row.split(" ") for row in text.split("\n")]
    heads = [words[0] for words in rows]
    if "givens" not in heads:
        raise NoText("givens are missed")
    at = heads.index("givens")
    return (machine_in(rows[:at]), stretch_in(rows[at:]))
