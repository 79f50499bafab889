"""The fewest bounds that let a cut, and the best steps for some lengths."""

from math import comb

from wholeline.errors import BadNumber, BadPart, BadPiece, TooMany
from wholeline.kinds import is_between, is_list, is_list_of
from wholeline.pieces import check_length, fewest_by, layers
from wholeline.steps import MOST_BOUNDS, MOST_UNITS, Room, Steps, check_cap

MOST_LENGTHS = 12
MOST_CHOICES = 5000


def check_size(size):
    """Raise BadNumber if any value is no size."""
    if not is_between(size, 1, MOST_UNITS):
        raise BadNumber(size)


def spans_of(size, pieces):
    """The list of the spans of the pieces of a cut."""
    check_size(size)
    if not is_list(pieces) or len(pieces) == 0:
        raise BadPiece(None)
    spans = []
    free = size
    for index, piece in enumerate(pieces):
        if not is_between(piece, 1, free):
            raise BadPiece(index)
        spans.append((piece, free))
        free -= piece
    return spans


def apart_ones(spans):
    """A list of as many indexes as can be, ascending, no two of whose spans meet."""
    indexes = []
    # The ends of the spans fall, so the last span is the one that ends first.
    end = 0
    for index in reversed(range(len(spans))):
        if spans[index][0] > end:
            end = spans[index][1]
            indexes.append(index)
    return indexes[::-1]


def fewest_bounds(size, pieces):
    """An ascending list of as few bounds as let a cut."""
    spans = spans_of(size, pieces)
    return [spans[index][1] for index in apart_ones(spans)[::-1]]


def apart_spans(size, pieces):
    """An ascending list of as many indexes, no two of whose spans meet."""
    return apart_ones(spans_of(size, pieces))


def check_lengths(lengths):
    """Raise what is wrong with a list of one to twelve lengths."""
    if not is_list_of(lengths, 1, MOST_LENGTHS):
        raise BadPart("lengths")
    for length in lengths:
        check_length(length)


def check_choices(size, cap, lengths, many):
    """Raise what is wrong with what best steps are asked for."""
    check_size(size)
    check_cap(cap)
    check_lengths(lengths)
    if not is_between(many, 1, MOST_BOUNDS):
        raise BadNumber(many)
    if sum([comb(size, bounds) for bounds in range(1, many + 1)]) > MOST_CHOICES:
        raise TooMany(MOST_CHOICES)


def total_by(room, cap, lengths):
    """The number of pieces of fewest cuts of all lengths, None if one is stuck."""
    tops = layers(room, cap)
    needed = [fewest_by(tops, length) for length in lengths]
    return None if None in needed else sum(needed)


def best_of(size, cap, lengths):
    """The best steps of one bound and the number of pieces with them, or None."""
    best = None
    for bound in range(1, size + 1):
        steps = Steps([bound])
        total = total_by(Room(size, steps), cap, lengths)
        if total is not None and (best is None or total < best[1]):
            best = (steps, total)
    return best


# One bound does as well as any: with a cap above 0 the lesser one of cap and
# size; with a cap of 0 nothing but the length 0 goes, and it goes with all steps.
def best_steps(size, cap, lengths, many):
    """The best steps with the fewest bounds, then the least tuple, or None."""
    check_choices(size, cap, lengths, many)
    best = best_of(size, cap, lengths)
    return None if best is None else best[0]


def best_total(size, cap, lengths, many):
    """The number of pieces with best steps, or None."""
    check_choices(size, cap, lengths, many)
    best = best_of(size, cap, lengths)
    return None if best is None else best[1]
