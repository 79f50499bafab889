"""Papers of the greatest number of short heads."""

from wholeline.bestbooks import best_writing, bound_of, check_writable, follow_writing, least_indexes
from wholeline.kinds import are_rising_indexes, is_told_by


def writing_paper(heads, places):
    """A paper of heads: a writing, and indexes whose bound it reaches."""
    writing = best_writing(heads, places)
    return ("best", writing, least_indexes(heads, places))


def lets_writing(heads, places, value):
    """Whether any value is a paper of heads."""
    check_writable(heads, places)
    if not is_told_by(value, "best", 3):
        return False
    writing, indexes = value[1:]
    if not isinstance(writing, list) or not isinstance(indexes, list):
        return False
    if not are_rising_indexes(indexes, len(heads)):
        return False
    truths, wrong = follow_writing(heads, places, writing)
    return wrong is None and sum([1 for short in truths if short]) == bound_of(heads, places, indexes)
