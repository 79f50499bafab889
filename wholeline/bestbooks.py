"""The greatest number of short heads, if each long one is written anywhere."""

from wholeline.books import MOST_PLACES
from wholeline.errors import BadIndexes, BadPart, BadWriting
from wholeline.kinds import is_between, is_index, is_list
from wholeline.lengths import shorts
from wholeline.letters import check_heads


def check_writable(heads, places):
    """Raise what is wrong with heads and with places of which there is one."""
    check_heads(heads)
    if not is_between(places, 1, MOST_PLACES):
        raise BadPart("places")


def gaps_of(heads):
    """The list of the gaps, ascending by second indexes."""
    check_heads(heads)
    earlier = earlier_uses(heads)
    return [(use, index) for index, use in enumerate(earlier) if use is not None]


def earlier_uses(heads):
    """For each head the index of its use ahead, None if there is none."""
    last = {}
    earlier = []
    for index, head in enumerate(heads):
        earlier.append(last.get(head))
        last[head] = index
    return earlier


def later_uses(heads):
    """For each head the index of its next use, the number of heads if there is none."""
    later = [len(heads)] * len(heads)
    for first, second in gaps_of(heads):
        later[first] = second
    return later


def bound_by(heads, places, indexes):
    """The bound of a list of indexes."""
    check_writable(heads, places)
    if not is_list(indexes):
        raise BadIndexes(None)
    for at, index in enumerate(indexes):
        if not is_index(index, len(heads)) or (at > 0 and index <= indexes[at - 1]):
            raise BadIndexes(at)
    return bound_of(heads, places, indexes)


def bound_of(heads, places, indexes):
    """The bound of a list of indexes that are known to fit."""
    chosen = {index: True for index in indexes}
    ahead = [0]
    for index in range(len(heads)):
        ahead.append(ahead[-1] + (1 if index in chosen else 0))
    empty = [gap for gap in gaps_of(heads) if ahead[gap[1]] == ahead[gap[0] + 1]]
    return len(indexes) * (places - 1) + len(empty)


def least_indexes(heads, places):
    """An ascending list of indexes with the least bound."""
    many = len(heads)
    # Between two neighbouring indexes, or an end, the gaps there are counted
    # by themselves, so the least bound is a shortest path from end to end.
    earlier = earlier_uses(heads)
    best = {-1: 0}
    came = {}
    for start in range(-1, many):
        uncut = 0
        for stop in range(start + 1, many + 1):
            if stop < many and earlier[stop] is not None and earlier[stop] >= start:
                uncut += 1
            bound = best[start] + uncut + (places - 1 if stop < many else 0)
            if stop not in best or bound < best[stop]:
                best[stop] = bound
                came[stop] = start
    indexes = []
    at = came[many]
    while at >= 0:
        indexes.append(at)
        at = came[at]
    return indexes[::-1]


def most_shorts(heads, places):
    """The greatest number of short heads."""
    check_writable(heads, places)
    return bound_of(heads, places, least_indexes(heads, places))


def best_writing(heads, places):
    """A writing with the greatest number of short heads."""
    check_writable(heads, places)
    later = later_uses(heads)
    slots = [None] * places
    # A blank place counts as used later than all, so it is taken first.
    due = [len(heads) + 1] * places
    writing = []
    for index, head in enumerate(heads):
        if head not in slots:
            place = due.index(max([int(use) for use in due]))
            slots[place] = head
            writing.append(place)
        due[slots.index(head)] = later[index]
    return writing


def follow_writing(heads, places, writing):
    """Which heads are short by a list, and its first wrong index, or None."""
    slots = [None] * places
    truths = []
    many = 0
    for head in heads:
        truths.append(head in slots)
        if head not in slots:
            if many == len(writing) or not is_index(writing[many], places):
                return truths, many
            slots[writing[many]] = head
            many += 1
    wrong = many if many < len(writing) else None
    return truths, wrong


def shorts_by(heads, places, writing):
    """The list of the truths which heads are short by a writing."""
    check_writable(heads, places)
    if not is_list(writing):
        raise BadWriting(None)
    truths, wrong = follow_writing(heads, places, writing)
    if wrong is not None:
        raise BadWriting(wrong)
    return truths


def rule_shorts(heads, places):
    """How many heads are short if the one used longest ago is written over."""
    check_writable(heads, places)
    return sum([1 for short in shorts(heads, places) if short])
