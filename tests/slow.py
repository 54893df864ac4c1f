"""Slow plain oracles for rows laid at once, trees, the fewest rows and boxes, written as the document's words stand."""

import itertools

from tests.samples import WORDS, named, rows_hold_slowly, step, told_store, waits_slowly


def works_of(machine, stretch):
    return [machine[1][WORDS.index(deed[0])] for deed in stretch[1]]


def length_slowly(machine, stretch, rows):
    return max([row + work[2] for row, work in zip(rows, works_of(machine, stretch))], default=0)


def ways_from(k, waits):
    """All ways along deeds that wait for one another, from deed k on: (sum of waits, last deed)."""
    ways = [(0, k)]
    for i, j, many in waits:
        if i == k:
            ways += [(many + so_far, last) for so_far, last in ways_from(j, waits)]
    return ways


def reaches_slowly(machine, stretch, pairs=()):
    works = works_of(machine, stretch)
    waits = waits_slowly(machine, stretch, pairs)
    return tuple(max(so_far + works[last][2] for so_far, last in ways_from(k, waits)) for k in range(len(works)))


def laid_slowly(machine, stretch, pairs=()):
    """Row by row, each row's held units counted one by one."""
    works = works_of(machine, stretch)
    waits = waits_slowly(machine, stretch, pairs)
    reach = reaches_slowly(machine, stretch, pairs)
    many = dict(machine[0])
    rows, held, row = {}, {}, 0

    def may_begin(k):
        name, holds, _ = works[k]
        if any(j == k and (i not in rows or rows[i] + wait > row) for i, j, wait in waits):
            return False
        return all(held.get((name, at), 0) < many[name] for at in range(row, row + holds))

    while len(rows) < len(works):
        ready = [k for k in range(len(works)) if k not in rows and may_begin(k)]
        if not ready:
            row += 1
            continue
        k = max(ready, key=lambda k: (reach[k], -k))
        rows[k] = row
        for at in range(row, row + works[k][1]):
            held[works[k][0], at] = held.get((works[k][0], at), 0) + 1
    return tuple(rows[k] for k in range(len(works)))


def narrowed_slowly(waits, windows):
    """Again and again, till nothing changes."""
    firsts, lasts = [list(side) for side in zip(*windows)] if windows else ([], [])
    changed = True
    while changed:
        changed = False
        for i, j, many in waits:
            if firsts[j] < firsts[i] + many:
                firsts[j], changed = firsts[i] + many, True
            if lasts[i] > lasts[j] - many:
                lasts[i], changed = lasts[j] - many, True
    return None if any(map(int.__gt__, firsts, lasts)) else tuple(zip(firsts, lasts))


def whole(thing):
    return isinstance(thing, int) and not isinstance(thing, bool)


def knot_slowly(machine, stretch, waits, windows, thing):
    works = works_of(machine, stretch)
    narrow = narrowed_slowly(waits, windows)
    if not isinstance(thing, tuple):
        return False
    if thing == ("waits",):
        return narrow is None
    if len(thing) == 4 and thing[0] == "crowd":
        _, name, start, behind = thing
        if name not in [unit for unit, many in machine[0]] or not whole(start) or not whole(behind) or start >= behind:
            return False
        if narrow is None:
            return True
        held = 0
        for (unit, holds, _), window in zip(works, narrow):
            if unit == name:
                held += min(sum(start <= at < behind for at in range(row, row + holds)) for row in window)
        return held > dict(machine[0])[name] * (behind - start)
    if len(thing) == 5 and thing[0] == "split":
        _, k, row, one, other = thing
        if not whole(k) or not 0 <= k < len(works) or not whole(row):
            return False
        left, right = list(windows), list(windows)
        left[k] = (windows[k][0], min(windows[k][1], row - 1))
        right[k] = (max(windows[k][0], row), windows[k][1])
        return knot_slowly(machine, stretch, waits, left, one) and knot_slowly(machine, stretch, waits, right, other)
    return False


def tree_slowly(machine, stretch, length, tree, pairs=()):
    windows = [(0, length - work[2]) for work in works_of(machine, stretch)]
    return knot_slowly(machine, stretch, waits_slowly(machine, stretch, pairs), windows, tree)


def has_rows(machine, stretch, length, pairs=()):
    """Whether some rows hold that have at most this length, all rows gone through."""
    windows = [range(max(0, length - work[2] + 1)) for work in works_of(machine, stretch)]
    return any(rows_hold_slowly(machine, stretch, rows, pairs) for rows in itertools.product(*windows))


def least_length(machine, stretch, pairs=()):
    return next(length for length in itertools.count() if has_rows(machine, stretch, length, pairs))


def knots_in(tree):
    return 1 + (knots_in(tree[3]) + knots_in(tree[4]) if tree[0] == "split" else 0)


def pairs_of(papers):
    return tuple((i, j) for i, j, paper in papers)


def lives_slowly(machine, stretch, rows):
    givens, deeds, outs = stretch
    works = works_of(machine, stretch)
    length = length_slowly(machine, stretch, rows)
    lives = []
    for worth in range(givens + len(deeds)):
        ends = [row for deed, row in zip(deeds, rows) if worth in named(deed)] + [length for out in outs if out == worth]
        first = 0 if worth < givens else rows[worth - givens] + works[worth - givens][2]
        lives.append((first, max(ends)) if ends else None)
    return tuple(lives)


def living_in(lives, row):
    return [worth for worth, life in enumerate(lives) if life is not None and life[0] <= row <= life[1]]


def boxes_slowly(machine, stretch, rows, boxes):
    """The checker of 15, each row gone through; boxes are a tuple of whole numbers and None, as many as worths."""
    lives = lives_slowly(machine, stretch, rows)
    if any((life is None) != (box is None) for life, box in zip(lives, boxes)):
        return False
    for row in range(length_slowly(machine, stretch, rows) + 1):
        here = [boxes[worth] for worth in living_in(lives, row)]
        if len(here) != len(set(here)):
            return False
    return True


def box_run_slowly(machine, stretch, rows, boxes, begin):
    """Run by boxes, row by row."""
    givens, deeds, outs = stretch
    works = works_of(machine, stretch)
    lying, store, shelf, coming = {}, dict(begin[1]), {}, {}
    for given, worth in enumerate(begin[0]):
        lying[boxes[given]] = worth
    for row in range(length_slowly(machine, stretch, rows) + 1):
        for k, deed in enumerate(deeds):
            if rows[k] == row:
                at_hand = {worth: 0 if boxes[worth] is None else lying.get(boxes[worth], 0) for worth in named(deed)}
                try:
                    coming[k] = step(deed, at_hand, store, shelf)
                except ZeroDivisionError:
                    return ("fault", k, told_store(store))
        for k, deed in enumerate(deeds):
            if rows[k] + works[k][2] - 1 == row and deed[0] not in ("write", "keep"):
                lying[boxes[givens + k]] = coming[k]
    return ("ended", tuple(0 if boxes[out] is None else lying.get(boxes[out], 0) for out in outs), told_store(store))
