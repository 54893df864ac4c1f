"""A stretch run by rows, its worths lying in boxes (16)."""

from widerows.deeds import named_by
from widerows.doing import done, is_fault
from widerows.machines import work_of
from widerows.stores import store_of


def turns_of(machine, deeds, rows):
    """(row, whether deed k is begun or, else, its worth comes, k), in the order in which it happens."""
    begun = [(row, True, k) for k, row in enumerate(rows)]
    come = [(row + work_of(machine, deeds[k])[2], False, k) for k, row in enumerate(rows)]
    # False stands ahead of True: what comes by a row is there for the deeds that are begun in it.
    return sorted(begun + come)


def put_in(lying, box, worth):
    """Puts a worth in a box, where there are both; the dict lying, what lies in boxes, is changed."""
    if box is not None and worth is not None:
        lying[box] = worth


def box_run(machine, stretch, rows, boxes, begin):
    """("ended", worths of the outs, store), or ("fault", k, store), by rows that hold."""
    givens, deeds, outs = stretch
    worths, store = begin
    lying = {}
    for box, worth in zip(boxes, worths):
        put_in(lying, box, worth)
    coming = {}
    cells = dict(store)
    shelf = {}
    for row, is_begun, k in turns_of(machine, deeds, rows):
        if not is_begun:
            put_in(lying, boxes[givens + k], coming[k])
            continue
        # No box is None, so a worth without one is 0 here.
        taken = [lying.get(boxes[worth], 0) for worth in named_by(deeds[k])]
        if is_fault(deeds[k], taken):
            return ("fault", k, store_of(cells))
        coming[k] = done(deeds[k], taken, cells, shelf)
    return ("ended", tuple([lying.get(boxes[worth], 0) for worth in outs]), store_of(cells))
