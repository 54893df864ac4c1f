"""What is asked of things that may be anything."""


def is_whole(thing):
    """Whether a thing is a whole number: an int that is no truth."""
    return isinstance(thing, int) and not isinstance(thing, bool)


def is_whole_from(thing, least):
    """Whether a thing is a whole number from least on."""
    return is_whole(thing) and thing >= least


def is_whole_within(thing, least, most):
    """Whether a thing is a whole number from least to most."""
    return is_whole(thing) and least <= thing <= most


def is_tuple_of(thing, many):
    """Whether a thing is a tuple of so many parts."""
    return isinstance(thing, tuple) and len(thing) == many


def rises(parts):
    """Whether each part is greater than the one ahead of it."""
    return all(one < other for one, other in zip(parts, parts[1:]))
