"""Slow plain oracles for loops laid by beats, written as the document's words stand."""

import itertools

from tests.samples import named, step, told_store, waits_slowly
from tests.slow import whole, works_of


def comes_from(loop, given):
    """(deed, rounds) by which a given is carried on, or None; gone back far longer than there are givens."""
    givens, deeds, carried = loop
    for rounds in range(1, givens + 20):
        given = carried[given]
        if given >= givens:
            return given - givens, rounds
    return None


def loop_waits_slowly(machine, loop, pairs=()):
    givens, deeds, carried = loop
    works = works_of(machine, loop)
    waits = [(i, j, rows, 0) for i, j, rows in waits_slowly(machine, (givens, deeds, ()), pairs)]
    for i, one in enumerate(deeds):
        for j, other in enumerate(deeds):
            words = {one[0], other[0]}
            if words <= {"read", "write"} and words != {"read"} or words <= {"write", "share"}:
                waits.append((i, j, 0, 1))
            for worth in named(other):
                source = comes_from(loop, worth) if worth < givens else None
                if source is not None and source[0] == i:
                    waits.append((i, j, works[i][2], source[1]))
    greatest = {}
    for i, j, rows, rounds in waits:
        greatest[i, j, rounds] = max(rows, greatest.get((i, j, rounds), 0))
    return tuple(sorted((i, j, rows, rounds) for (i, j, rounds), rows in greatest.items()))


def beat_holds_slowly(machine, loop, beat, rows, pairs=()):
    """The checker of 22, each held row gone through."""
    if any(rows[j] + beat * rounds < rows[i] + many for i, j, many, rounds in loop_waits_slowly(machine, loop, pairs)):
        return False
    return units_hold_slowly(machine, loop, beat, rows)


def units_hold_slowly(machine, loop, beat, rows):
    held = {}
    for (name, holds, _), row in zip(works_of(machine, loop), rows):
        for at in range(row, row + holds):
            held[name, at % beat] = held.get((name, at % beat), 0) + 1
    return all(many <= dict(machine[0])[name] for (name, _), many in held.items())


def by_beats_slowly(machine, loop, beat, rows, begin, rounds):
    """Run row by row; tells ("early", deed) where a worth hasn't come."""
    givens, deeds, carried = loop
    works = works_of(machine, loop)
    store, coming = dict(begin[1]), {}

    def worth_of(worth, at):
        """(the row by which it is there, the worth), of a worth named in a round."""
        if worth >= givens:
            k = worth - givens
            return rows[k] + beat * at + works[k][2], coming.get((k, at))
        return worth_of(carried[worth], at - 1) if at > 0 else (0, begin[0][worth])

    for row in range(max(rows, default=0) + beat * rounds + 1):
        for at in range(rounds):
            for k, deed in enumerate(deeds):
                if rows[k] + beat * at != row:
                    continue
                at_hand = {worth: worth_of(worth, at) for worth in named(deed)}
                if any(by > row for by, _ in at_hand.values()):
                    return ("early", k)
                try:
                    coming[k, at] = step(deed, {worth: told for worth, (_, told) in at_hand.items()}, store, {})
                except ZeroDivisionError:
                    return ("fault", at, k, told_store(store))
    return ("ended", tuple(worth_of(given, rounds)[1] for given in range(givens)), told_store(store))


def has_beat_rows(machine, loop, beat, pairs=()):
    """Whether some rows hold by a beat: all rests gone through, the first deed's being 0."""
    many = len(loop[1])
    waits = loop_waits_slowly(machine, loop, pairs)
    for rests in itertools.product(range(beat), repeat=max(0, many - 1)):
        rests = (0,) * min(1, many) + rests
        if units_hold_slowly(machine, loop, beat, rests) and rows_by_rests(waits, beat, rests) is not None:
            return True
    return False


def rows_by_rests(waits, beat, rests):
    """The earliest rows with these rests, or None where they grow and grow."""
    rows = list(rests)
    for _ in range(len(rows) + 1):
        before = list(rows)
        for i, j, many, rounds in waits:
            least = rows[i] + many - beat * rounds
            while rows[j] < least:
                rows[j] += beat
        if rows == before:
            return tuple(rows)
    return None


def least_beat_slowly(machine, loop, pairs=()):
    return next(beat for beat in itertools.count(1) if has_beat_rows(machine, loop, beat, pairs))


def beat_knot_slowly(machine, loop, waits, beat, rests, thing):
    works = works_of(machine, loop)
    many = dict(machine[0])
    if not isinstance(thing, tuple) or not thing or not isinstance(thing[0], str):
        return False
    word, parts = thing[0], thing[1:]
    if word == "ring" and len(parts) == 1:
        ring = parts[0]
        if not isinstance(ring, tuple) or not ring or not all(whole(k) and 0 <= k < len(works) for k in ring):
            return False
        total = 0
        for at, j in enumerate(ring):
            i = ring[at - 1]
            counts = [rows - beat * rounds for one, other, rows, rounds in waits if (one, other) == (i, j)]
            if not counts:
                return False
            count = max(counts)
            while i in rests and j in rests and (count - rests[j] + rests[i]) % beat:
                count += 1
            total += count
        return total > 0
    if word == "full" and len(parts) == 1:
        return isinstance(parts[0], str) and parts[0] in many and (
            sum(holds for name, holds, _ in works if name == parts[0]) > beat * many[parts[0]])
    if word == "crowd" and len(parts) == 2:
        name, rest = parts
        if not isinstance(name, str) or name not in many or not whole(rest) or not 0 <= rest < beat:
            return False
        held = [at for k, told in rests.items() if works[k][0] == name for at in range(told, told + works[k][1])]
        return sum(at % beat == rest for at in held) > many[name]
    if word == "split" and len(parts) == 2:
        k, knots = parts
        if not whole(k) or not 0 <= k < len(works) or k in rests or not isinstance(knots, tuple) or len(knots) != beat:
            return False
        return all(beat_knot_slowly(machine, loop, waits, beat, {**rests, k: rest}, knots[rest]) for rest in range(beat))
    return False


def beat_tree_slowly(machine, loop, beat, tree, pairs=()):
    waits = loop_waits_slowly(machine, loop, pairs)
    if isinstance(tree, tuple) and len(tree) == 3 and tree[0] == "first":
        if not whole(tree[1]) or not 0 <= tree[1] < len(loop[1]):
            return False
        return beat_knot_slowly(machine, loop, waits, beat, {tree[1]: 0}, tree[2])
    return beat_knot_slowly(machine, loop, waits, beat, {}, tree)


def beat_knots_in(tree):
    if tree[0] == "first":
        return 1 + beat_knots_in(tree[2])
    return 1 + (sum(map(beat_knots_in, tree[2])) if tree[0] == "split" else 0)
