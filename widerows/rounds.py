"""A loop run by beats: its rounds laid over one another (22)."""

from widerows.deeds import named_by
from widerows.doing import done, is_fault
from widerows.errors import Early
from widerows.machines import work_of
from widerows.stores import store_of


def source_of(loop, worth, q):
    """(number, round) of the worth that is meant by one named in round q: a deed's, or a given's of round 0."""
    givens, deeds, carried = loop
    while worth < givens and q > 0:
        worth, q = carried[worth], q - 1
    return (worth, q)


def has_come(machine, loop, beat, rows, source, row):
    """Whether a worth (number, round) has come by a row; a given has."""
    givens, deeds, carried = loop
    worth, q = source
    if worth < givens:
        return True
    k = worth - givens
    return rows[k] + beat * q + work_of(machine, deeds[k])[2] <= row


def rounds_run(machine, loop, beat, rows, begin, rounds):
    """("ended", worths of the givens behind the last round, store), or ("fault", round, k, store); or Early."""
    givens, deeds, carried = loop
    worths, store = begin
    known = {(given, 0): worth for given, worth in enumerate(worths)}
    cells = dict(store)
    for row, q, k in sorted([(row + beat * q, q, k) for k, row in enumerate(rows) for q in range(rounds)]):
        sources = [source_of(loop, worth, q) for worth in named_by(deeds[k])]
        if not all(has_come(machine, loop, beat, rows, source, row) for source in sources):
            raise Early(k)
        taken = [known[source] for source in sources]
        if is_fault(deeds[k], taken):
            return ("fault", q, k, store_of(cells))
        known[givens + k, q] = done(deeds[k], taken, cells, {})
    ends = [source_of(loop, given, rounds) for given in range(givens)]
    return ("ended", tuple([known[source] for source in ends]), store_of(cells))
