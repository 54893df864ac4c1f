"""Forms: a number and factors of worths, to be summed (8)."""

from widerows.things import is_tuple_of, is_whole, rises


def is_term(thing):
    """Whether a thing is a worth's number and a factor that isn't 0."""
    return is_tuple_of(thing, 2) and is_whole(thing[0]) and is_whole(thing[1]) and thing[1] != 0


def is_form(thing):
    """Whether a thing, of anything, is a form."""
    if not is_tuple_of(thing, 2) or not is_whole(thing[0]) or not isinstance(thing[1], tuple):
        return False
    return all(is_term(term) for term in thing[1]) and rises([term[0] for term in thing[1]])


def form_alone(worth):
    """The form of a worth of which nothing more is told."""
    return (0, ((worth, 1),))


def form_plus(one, other):
    """The sum of two forms."""
    factors = {}
    for worth, factor in one[1] + other[1]:
        factors[worth] = factors.get(worth, 0) + factor
    terms = [(worth, factors[worth]) for worth in sorted(factors) if factors[worth] != 0]
    return (one[0] + other[0], tuple(terms))


def form_times(form, number):
    """A form so many times."""
    if number == 0:
        return (0, ())
    return (form[0] * number, tuple([(worth, factor * number) for worth, factor in form[1]]))


def form_minus(one, other):
    """The difference of two forms."""
    return form_plus(one, form_times(other, -1))


def form_at(form, worths):
    """The number that a form comes to, by the worths."""
    return form[0] + sum([factor * worths[worth] for worth, factor in form[1]])
