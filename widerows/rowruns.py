"""A stretch run by rows (11)."""

from widerows.deeds import named_by
from widerows.doing import done, is_fault
from widerows.errors import Early
from widerows.machines import work_of
from widerows.stores import store_of


def not_there(machine, stretch, rows, k):
    """Whether deed k names a worth of another deed that hasn't come by its row."""
    givens, deeds, outs = stretch
    named = [worth - givens for worth in named_by(deeds[k]) if worth >= givens]
    return any(rows[i] + work_of(machine, deeds[i])[2] > rows[k] for i in named)


def row_run(machine, stretch, rows, begin):
    """("ended", worths of the outs, store), or ("fault", k, store); or refused with Early."""
    givens, deeds, outs = stretch
    worths, store = begin
    known = list(worths) + [None] * len(deeds)
    cells = dict(store)
    shelf = {}
    for row, k in sorted([(row, k) for k, row in enumerate(rows)]):
        if not_there(machine, stretch, rows, k):
            raise Early(k)
        taken = [known[worth] for worth in named_by(deeds[k])]
        if is_fault(deeds[k], taken):
            return ("fault", k, store_of(cells))
        known[givens + k] = done(deeds[k], taken, cells, shelf)
    return ("ended", tuple([known[worth] for worth in outs]), store_of(cells))
