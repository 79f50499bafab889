"""Papers of a room, a cap and a length, and papers of spans."""

from wholeline.beststeps import apart_spans, fewest_bounds, spans_of
from wholeline.cutting import is_right_cut, told_cut
from wholeline.kinds import is_between, is_integer, is_lot, is_told_by
from wholeline.pieces import check_goods, layers, reaches_of, top_behind
from wholeline.steps import MOST_UNITS


def room_paper(room, cap, length):
    """A paper: a cut of fewest pieces, or how far all cuts come."""
    pieces = told_cut(room, cap, length)
    tops = layers(room, cap)
    if pieces is None:
        return ("stuck", tops[-1])
    if length == 0:
        return ("cut", pieces, (-1,))
    return ("cut", pieces, tuple(tops[:len(pieces)]))


def lets_room(room, cap, length, value):
    """Whether any value is a paper of a room, a cap and a length."""
    check_goods(room, cap, length)
    if is_told_by(value, "stuck", 2):
        return lets_stuck(room, cap, length, value[1])
    if not is_told_by(value, "cut", 3) or not is_right_cut(room, cap, length, value[1]):
        return False
    marks = value[2]
    if not isinstance(marks, tuple) or len(marks) != len(value[1]):
        return False
    return lets_marks(reaches_of(room, cap), length, marks)


def lets_stuck(room, cap, length, top):
    """Whether any value is a number of units that no cut of a length leaves."""
    return is_between(top, 0, length - 1) and top_behind(reaches_of(room, cap), top) <= top


def lets_marks(reaches, length, marks):
    """Whether any values are marks that leave a length to the last piece."""
    if not all([is_integer(mark) for mark in marks]):
        return False
    if length == 0:
        return marks == (-1,)
    if marks[0] < 0 or marks[-1] >= length:
        return False
    for ahead, mark in zip(marks, marks[1:]):
        if mark < top_behind(reaches, ahead):
            return False
    return True


def spans_paper(size, pieces):
    """A paper of spans: as few bounds as let a cut, and as many spans that do not meet."""
    return ("spans", tuple(fewest_bounds(size, pieces)), tuple(apart_spans(size, pieces)))


def lets_spans(size, pieces, value):
    """Whether any value is a paper of spans."""
    spans = spans_of(size, pieces)
    if not is_told_by(value, "spans", 3):
        return False
    bounds, indexes = value[1:]
    if not are_bounds(bounds) or not is_lot(indexes, len(spans)) or len(bounds) != len(indexes):
        return False
    chosen = [spans[index] for index in indexes]
    return are_apart(chosen) and all([is_held(span, bounds) for span in spans])


def are_bounds(value):
    """Whether any value is an ascending tuple of bounds, of any number."""
    if not isinstance(value, tuple) or not all([is_between(bound, 1, MOST_UNITS) for bound in value]):
        return False
    return all([one < other for one, other in zip(value, value[1:])])


def is_held(span, bounds):
    """Whether a span holds one of some bounds."""
    return any([span[0] <= bound <= span[1] for bound in bounds])


def are_apart(spans):
    """Whether no two spans meet; their ends are known to fall."""
    for at, span in enumerate(spans):
        if any([later[1] >= span[0] for later in spans[at + 1:]]):
            return False
    return True
