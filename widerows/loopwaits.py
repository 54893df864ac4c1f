"""How many rows the deeds of a loop wait for one another, over rounds too (21)."""

from widerows.deeds import named_by
from widerows.machines import work_of
from widerows.unlike import may_clash
from widerows.waits import share_counts, waits_of


def carried_from(loop, given):
    """(deed, rounds): whose worth a given is, carried on so many rounds, or None where it only comes of givens."""
    givens, deeds, carried = loop
    worth = given
    for rounds in range(1, givens + 1):
        worth = carried[worth]
        if worth >= givens:
            return (worth - givens, rounds)
    return None


def put_greatest(waits, key, rows):
    """Puts rows at a key of the dict waits, where no more are there."""
    waits[key] = max(rows, waits.get(key, rows))


def put_carried(machine, loop, waits):
    """Puts the waits for worths that are carried on."""
    givens, deeds, carried = loop
    for j, deed in enumerate(deeds):
        named = [carried_from(loop, worth) for worth in named_by(deed) if worth < givens]
        for found in named:
            if found is not None:
                i, rounds = found
                put_greatest(waits, (i, j, rounds), work_of(machine, deeds[i])[2])


def loop_waits(machine, loop, papers=None):
    """The tuple of (i, j, so many rows, so many rounds), rising."""
    givens, deeds, carried = loop
    waits = {(i, j, 0): rows for i, j, rows in waits_of(machine, (givens, deeds, ()), papers)}
    put_carried(machine, loop, waits)
    for i, one in enumerate(deeds):
        for j, other in enumerate(deeds):
            if may_clash(one, other) or share_counts(one, other):
                put_greatest(waits, (i, j, 1), 0)
    return tuple(sorted([(i, j, waits[i, j, rounds], rounds) for i, j, rounds in waits]))
