"""Deeds and stretches (4)."""

from widerows.things import is_tuple_of, is_whole, is_whole_from

KINDS = (
    "number", "plus", "minus", "times", "less", "pick",
    "share", "read", "write", "keep", "fetch",
)

# What stands behind each word: w a worth, n any whole number, s a spot.
PARTS = {
    "number": "n", "plus": "ww", "minus": "ww", "times": "ww", "less": "ww", "pick": "www",
    "share": "ww", "read": "wn", "write": "wnw", "keep": "ws", "fetch": "s",
}

WORTHLESS = ("write", "keep")


def named_by(deed):
    """The numbers of the worths that a deed names, in order."""
    return tuple([part for part, sign in zip(deed[1:], PARTS[deed[0]]) if sign == "w"])


def renamed(deed, names):
    """The deed with other numbers for the worths that it names, by a dict; those that aren't in it stay."""
    parts = [names.get(part, part) if sign == "w" else part for part, sign in zip(deed[1:], PARTS[deed[0]])]
    return (deed[0],) + tuple(parts)


def is_worth(thing, givens, deeds, k):
    """Whether a thing is the number of a worth ahead of deed k's, the deeds ahead of k being deeds."""
    if not is_whole_from(thing, 0) or thing >= givens + k:
        return False
    return thing < givens or deeds[thing - givens][0] not in WORTHLESS


def is_part(thing, sign, givens, deeds, k):
    """Whether a thing may stand in deed k where its word asks for this sign."""
    if sign == "w":
        return is_worth(thing, givens, deeds, k)
    if sign == "s":
        return is_whole_from(thing, 0)
    return is_whole(thing)


def is_deed(givens, deeds, k):
    """Whether thing k of a tuple is a deed, those ahead of it being deeds."""
    deed = deeds[k]
    if not isinstance(deed, tuple) or not deed:
        return False
    word = deed[0]
    # A list or a dict can't be looked up in PARTS, so the word is asked first.
    if not isinstance(word, str) or word not in PARTS:
        return False
    signs = PARTS[word]
    if len(deed) != len(signs) + 1:
        return False
    return all(is_part(part, sign, givens, deeds, k) for part, sign in zip(deed[1:], signs))


def are_deeds(givens, deeds):
    """Whether a thing is a tuple of deeds behind so many givens."""
    return isinstance(deeds, tuple) and all(is_deed(givens, deeds, k) for k in range(len(deeds)))


def are_worths(thing, givens, deeds):
    """Whether a thing is a tuple of numbers of worths of givens and deeds."""
    if not isinstance(thing, tuple):
        return False
    return all(is_worth(part, givens, deeds, len(deeds)) for part in thing)


def is_stretch(thing):
    """Whether a thing, of anything, is a stretch."""
    if not is_tuple_of(thing, 3):
        return False
    givens, deeds, outs = thing
    if not is_whole_from(givens, 0) or not are_deeds(givens, deeds):
        return False
    return are_worths(outs, givens, deeds)
