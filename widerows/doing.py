"""What one deed does, when it is begun (4); every way of running uses it."""


def is_fault(deed, taken):
    """Whether a deed is a fault, by the worths that it names."""
    return deed[0] == "share" and taken[1] == 0


def reckoned(word, taken):
    """The worth of a deed that only reckons with the worths that it names."""
    if word == "plus":
        return taken[0] + taken[1]
    if word == "minus":
        return taken[0] - taken[1]
    if word == "times":
        return taken[0] * taken[1]
    if word == "less":
        return 1 if taken[0] < taken[1] else 0
    if word == "pick":
        return taken[1] if taken[0] != 0 else taken[2]
    return taken[0] // taken[1]


def done(deed, taken, cells, shelf):
    """Does a deed that is no fault, and tells its worth, None of a write and a keep.

    The dicts cells (the store's) and shelf are the run's own, and are changed.
    """
    word = deed[0]
    if word == "number":
        return deed[1]
    if word == "read":
        return cells.get(taken[0] + deed[2], 0)
    if word == "fetch":
        return shelf.get(deed[1], 0)
    if word == "write":
        cells[taken[0] + deed[2]] = taken[1]
        return None
    if word == "keep":
        shelf[deed[2]] = taken[0]
        return None
    return reckoned(word, taken)
