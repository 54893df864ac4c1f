"""Papers that two deeds' places are unlike for every begin (8, 9)."""

from widerows.deeds import is_worth, named_by
from widerows.forms import form_alone, form_minus, form_plus, form_times, is_form
from widerows.things import is_tuple_of, is_whole, is_whole_from, rises


def may_clash(one, other):
    """Whether two deeds are reads or writes, not both reads."""
    words = (one[0], other[0])
    return "write" in words and all(word in ("read", "write") for word in words)


def is_pair(deeds, i, j):
    """Whether there may be a paper for deeds i and j."""
    if not is_whole_from(i, 0) or not is_whole(j) or not i < j < len(deeds):
        return False
    return may_clash(deeds[i], deeds[j])


def form_by(lines, worth):
    """The form of a worth by a dict of lines: itself alone where it has none."""
    return lines.get(worth, form_alone(worth))


def form_followed(deed, lines):
    """The form that follows from a deed, or None where it must stand alone."""
    if deed[0] == "number":
        return (deed[1], ())
    if deed[0] not in ("plus", "minus", "times"):
        return None
    one, other = form_by(lines, deed[1]), form_by(lines, deed[2])
    if deed[0] == "plus":
        return form_plus(one, other)
    if deed[0] == "minus":
        return form_minus(one, other)
    if not one[1]:
        return form_times(other, one[0])
    return form_times(one, other[0]) if not other[1] else None


def line_follows(stretch, lines, worth, form):
    """Whether a line may be told, the lines of lesser worths being lines."""
    givens, deeds, outs = stretch
    if not is_worth(worth, givens, deeds, len(deeds)):
        return False
    if form == form_alone(worth):
        return True
    return worth >= givens and form == form_followed(deeds[worth - givens], lines)


def is_line(thing):
    """Whether a thing is made as a line: a worth's number and a form."""
    return is_tuple_of(thing, 2) and is_whole(thing[0]) and is_form(thing[1])


def lines_told(stretch, thing):
    """The dict of a paper's lines, or None where some line isn't let by."""
    if not isinstance(thing, tuple) or not all(is_line(line) for line in thing):
        return None
    if not rises([line[0] for line in thing]):
        return None
    lines = {}
    for worth, form in thing:
        if not line_follows(stretch, lines, worth, form):
            return None
        lines[worth] = form
    return lines


def is_measure(thing):
    """Whether a thing is 0 or a whole number from 2 on."""
    return is_whole_from(thing, 0) and thing != 1


def place_form(deed, lines):
    """The form of a read's or a write's place."""
    return form_plus(form_by(lines, deed[1]), (deed[2], ()))


def apart(deeds, i, j, lines):
    """The form of the difference of j's place and i's."""
    return form_minus(place_form(deeds[j], lines), place_form(deeds[i], lines))


def never_nought(form, measure):
    """Whether a form can't come to 0, all but its number being measure times something."""
    number, terms = form
    if measure == 0:
        return not terms and number != 0
    return number % measure != 0 and all(factor % measure == 0 for worth, factor in terms)


def paper_holds(stretch, i, j, paper):
    """Whether a paper, of anything, holds for deeds i and j."""
    deeds = stretch[1]
    if not is_pair(deeds, i, j) or not is_tuple_of(paper, 2) or not is_measure(paper[0]):
        return False
    lines = lines_told(stretch, paper[1])
    return lines is not None and never_nought(apart(deeds, i, j, lines), paper[0])


def is_entry(thing):
    """Whether a thing is made as two deeds' numbers and what may be a paper."""
    return is_tuple_of(thing, 3) and is_whole(thing[0]) and is_whole(thing[1])


def papers_hold(stretch, papers):
    """Whether a thing, of anything, is papers of a stretch."""
    if not isinstance(papers, tuple) or not all(is_entry(entry) for entry in papers):
        return False
    if not rises([entry[:2] for entry in papers]):
        return False
    return all(paper_holds(stretch, i, j, paper) for i, j, paper in papers)


def lines_by_deeds(stretch):
    """The dict of all lines that follow, each worth taken apart wherever it can be.

    Any other choice of lines leaves some of these worths whole; where a difference is never nought by those,
    it is so with these lines put in, too. So these alone need be looked at.
    """
    givens, deeds, outs = stretch
    lines = {}
    for k, deed in enumerate(deeds):
        form = form_followed(deed, lines)
        if form is not None:
            lines[givens + k] = form
    return lines


def lines_under(stretch, lines, worths):
    """A tuple of the lines from which those of some worths follow, these too, rising."""
    givens, deeds, outs = stretch
    wanted = {worth: True for worth in worths}
    for worth in reversed(range(givens, givens + len(deeds))):
        if worth in wanted and worth in lines:
            for named in named_by(deeds[worth - givens]):
                wanted[named] = True
    return tuple([(worth, lines[worth]) for worth in sorted(wanted) if worth in lines])


def common_measure(form):
    """The greatest number by which all factors of a form can be shared, 0 without terms."""
    measure = 0
    for worth, factor in form[1]:
        rest = abs(factor)
        while rest != 0:
            measure, rest = rest, measure % rest
    return measure


def paper_by(stretch, lines, i, j):
    """A paper for a pair of deeds by all lines that follow, or None."""
    deeds = stretch[1]
    form = apart(deeds, i, j, lines)
    measure = common_measure(form)
    if not never_nought(form, measure):
        return None
    return (measure, lines_under(stretch, lines, (deeds[i][1], deeds[j][1])))


def unlike_paper(stretch, i, j):
    """A paper that holds for deeds i and j, or None where none does."""
    if not is_pair(stretch[1], i, j):
        return None
    return paper_by(stretch, lines_by_deeds(stretch), i, j)


def all_papers(stretch):
    """The tuple of (i, j, paper) for all pairs that have one, rising."""
    deeds = stretch[1]
    lines = lines_by_deeds(stretch)
    papers = []
    for i, earlier in enumerate(deeds):
        for j in range(i + 1, len(deeds)):
            paper = paper_by(stretch, lines, i, j) if may_clash(earlier, deeds[j]) else None
            if paper is not None:
                papers.append((i, j, paper))
    return tuple(papers)
