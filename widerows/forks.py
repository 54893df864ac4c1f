"""Forks: a head, and two sides of which one is done (18)."""

from widerows.deeds import is_stretch
from widerows.plain import plain_run
from widerows.things import is_tuple_of


def is_shelfless(deeds):
    """Whether there is no keep and no fetch among deeds."""
    return all(deed[0] not in ("keep", "fetch") for deed in deeds)


def is_side(thing, givens, head):
    """Whether a thing is a side behind givens and head, which are as they must be."""
    if not is_tuple_of(thing, 2) or not isinstance(thing[0], tuple):
        return False
    return is_stretch((givens, head + thing[0], thing[1])) and is_shelfless(thing[0])


def is_fork(thing):
    """Whether a thing, of anything, is a fork."""
    if not is_tuple_of(thing, 5):
        return False
    givens, head, test, yes, no = thing
    # The test is the number of a worth there just where it might be one of the outs.
    if not is_stretch((givens, head, (test,))) or not is_shelfless(head):
        return False
    return is_side(yes, givens, head) and is_side(no, givens, head)


def side_of(fork, side):
    """The stretch of head and a side, "yes" or "no", with its outs."""
    givens, head, test, yes, no = fork
    deeds, outs = yes if side == "yes" else no
    return (givens, head + deeds, outs)


def plain_fork_run(fork, begin):
    """("ended", side, worths of its outs, store), or ("fault", side, k, store)."""
    givens, head, test, yes, no = fork
    word, told, store = plain_run((givens, head, (test,)), begin)
    if word == "fault":
        return (word, "head", told, store)
    side = "yes" if told[0] != 0 else "no"
    word, told, store = plain_run(side_of(fork, side), begin)
    if word == "fault":
        return (word, side, told - len(head), store)
    return (word, side, told, store)
