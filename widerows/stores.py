"""Stores: tuples of (place, number), places rising, no number 0 (5)."""

from widerows.things import is_tuple_of, is_whole, rises


def is_cell(thing):
    """Whether a thing is a pair of a place and a number that isn't 0."""
    return is_tuple_of(thing, 2) and is_whole(thing[0]) and is_whole(thing[1]) and thing[1] != 0


def is_store(thing):
    """Whether a thing, of anything, is a store."""
    if not isinstance(thing, tuple) or not all(is_cell(part) for part in thing):
        return False
    return rises([place for place, number in thing])


def store_of(cells):
    """The store of a dict of places and their numbers, noughts left out."""
    return tuple([(place, cells[place]) for place in sorted(cells) if cells[place] != 0])


def store_at(store, place):
    """The number that lies at a place."""
    return dict(store).get(place, 0)


def store_with(store, place, number):
    """The store with a number put at a place."""
    cells = dict(store)
    cells[place] = number
    return store_of(cells)
