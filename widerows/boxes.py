"""Boxes for worths that live (15)."""

from widerows.lives import lives_of
from widerows.things import is_tuple_of, is_whole_from


def is_box_for(thing, life):
    """Whether a thing, of anything, is a box for a worth that lives, or None for one that doesn't."""
    return thing is None if life is None else is_whole_from(thing, 0)


def boxes_hold(machine, stretch, rows, boxes):
    """Whether boxes, which may be anything, hold by rows that hold."""
    lives = lives_of(machine, stretch, rows)
    if not is_tuple_of(boxes, len(lives)):
        return False
    if not all(is_box_for(box, life) for box, life in zip(boxes, lives)):
        return False
    spans = sorted([(box, life[0], life[1]) for box, life in zip(boxes, lives) if life is not None])
    # So sorted, two in one box that live in one row show at two that stand side by side.
    return all(one[0] != other[0] or one[2] < other[1] for one, other in zip(spans, spans[1:]))


def least_boxes(machine, stretch, rows):
    """(number, boxes, row): the least number, boxes that hold below it, and the first row in which so many live."""
    lives = lives_of(machine, stretch, rows)
    boxes = [None] * len(lives)
    ends = []
    most_row = None
    spans = [(life[0], life[1], worth) for worth, life in enumerate(lives) if life is not None]
    for first, last, worth in sorted(spans):
        free = [box for box, end in enumerate(ends) if end < first]
        if free:
            boxes[worth] = free[0]
            ends[free[0]] = last
        else:
            # All boxes are taken here, so here, and in no row ahead of it, so many live.
            boxes[worth] = len(ends)
            ends.append(last)
            most_row = first
    return (len(ends), tuple(boxes), most_row)
