"""Loops, run plainly round by round (20)."""

from widerows.deeds import is_stretch
from widerows.forks import is_shelfless
from widerows.plain import plain_run


def is_loop(thing):
    """Whether a thing, of anything, is a loop."""
    # What is carried are numbers of worths, just as outs are, one for each given.
    return is_stretch(thing) and len(thing[2]) == thing[0] and is_shelfless(thing[1])


def loop_run(loop, begin, rounds):
    """("ended", worths of the givens behind the last round, store), or ("fault", round, k, store)."""
    worths, store = begin
    for q in range(rounds):
        word, told, store = plain_run(loop, (worths, store))
        if word == "fault":
            return (word, q, told, store)
        worths = told
    return ("ended", worths, store)
