"""Rows of a fork: those of its head and of its sides (19)."""

from widerows.greedy import laid
from widerows.rowruns import row_run
from widerows.rows import rows_hold
from widerows.things import is_tuple_of


def own_stretches(fork):
    """Head, yes and no, each as a stretch of its own; the worths of head are givens to the sides."""
    givens, head, test, yes, no = fork
    there = givens + len(head)
    return ((givens, head, (test,)), (there, yes[0], yes[1]), (there, no[0], no[1]))


def fork_rows_hold(machine, fork, rows):
    """Whether rows, which may be anything, are three rows that hold."""
    if not is_tuple_of(rows, 3):
        return False
    return all(rows_hold(machine, stretch, part) for stretch, part in zip(own_stretches(fork), rows))


def fork_laid(machine, fork):
    """Rows of head, yes and no, each laid at once."""
    return tuple([laid(machine, stretch) for stretch in own_stretches(fork)])


def fork_run(machine, fork, rows, begin):
    """("ended", side, worths of its outs, store), or ("fault", side, k, store), by rows that hold."""
    givens, head, test, yes, no = fork
    # All numbers are asked for, also those of writes, which nobody names: so the sides find each worth at its number.
    whole = (givens, head, tuple(range(givens + len(head))))
    word, told, store = row_run(machine, whole, rows[0], begin)
    if word == "fault":
        return (word, "head", told, store)
    side = "yes" if told[test] != 0 else "no"
    at = 1 if side == "yes" else 2
    word, told, store = row_run(machine, own_stretches(fork)[at], rows[at], (told, store))
    return (word, side, told, store)
