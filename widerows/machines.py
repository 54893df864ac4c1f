"""Machines: units that work beside one another, and who does which kind (6)."""

from widerows.deeds import KINDS
from widerows.things import is_tuple_of, is_whole_within


def is_name(thing):
    """Whether a thing may name a unit."""
    if not isinstance(thing, str) or not 1 <= len(thing) <= 8:
        return False
    return all("a" <= letter <= "z" for letter in thing)


def is_unit(thing):
    """Whether a thing is a unit's name and how many there are."""
    return is_tuple_of(thing, 2) and is_name(thing[0]) and is_whole_within(thing[1], 1, 6)


def is_work(thing, names):
    """Whether a thing is the work of one kind by a unit of these names."""
    # A list or a dict can't be looked up among the names, so is_name is asked first.
    if not is_tuple_of(thing, 3) or not is_name(thing[0]) or thing[0] not in names:
        return False
    return is_whole_within(thing[1], 1, 6) and is_whole_within(thing[2], 1, 6)


def is_machine(thing):
    """Whether a thing, of anything, is a machine."""
    if not is_tuple_of(thing, 2):
        return False
    units, works = thing
    if not isinstance(units, tuple) or not units or not all(is_unit(unit) for unit in units):
        return False
    names = {name: True for name, many in units}
    if len(names) != len(units) or not is_tuple_of(works, len(KINDS)):
        return False
    return all(is_work(work, names) for work in works)


def work_of(machine, deed):
    """(name, holds, comes) of a deed's kind."""
    return machine[1][KINDS.index(deed[0])]


def many_of(machine, name):
    """How many units of a name there are."""
    return dict(machine[0])[name]
