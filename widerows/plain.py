"""A stretch run plainly: its deeds one behind the other (5)."""

from widerows.deeds import named_by
from widerows.doing import done, is_fault
from widerows.stores import store_of


def plain_run(stretch, begin):
    """("ended", worths of the outs, store), or ("fault", k, store)."""
    givens, deeds, outs = stretch
    worths, store = begin
    known = list(worths)
    cells = dict(store)
    shelf = {}
    for k, deed in enumerate(deeds):
        taken = [known[worth] for worth in named_by(deed)]
        if is_fault(deed, taken):
            return ("fault", k, store_of(cells))
        known.append(done(deed, taken, cells, shelf))
    return ("ended", tuple([known[worth] for worth in outs]), store_of(cells))
