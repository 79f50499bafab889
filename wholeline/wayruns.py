"""All courses of a load, and their number."""

from math import comb

from wholeline.errors import BadPart
from wholeline.numbers import is_calm
from wholeline.plays import finished, losses_of
from wholeline.turns import check_losses


def fate_behind(turn, fate):
    """The next fate of a sending in their order, None behind the last one."""
    if fate[0] == "lost":
        return None
    if fate[-1] < turn.most:
        return (*fate[:-1], fate[-1] + 1)
    if fate[0] == "come":
        return ("lost",)
    if fate[1] < turn.most:
        return ("answered", fate[1] + 1, turn.least)
    return ("come", turn.least)


def next_beginning(turn, course, losses):
    """How the courses behind this one begin, as the list of their first fates; None behind the last one."""
    left = losses - losses_of(course)
    for sending in reversed(range(len(course))):
        if course[sending][0] != "answered":
            left += 1
        fate = fate_behind(turn, course[sending])
        if fate is not None and (fate[0] == "answered" or left > 0):
            return course[:sending] + [fate]
    return None


def all_courses(turn, load, losses):
    """All whole courses with at most so many losses, answered fates ahead of come and lost ones."""
    check_losses(losses)
    begun = []
    while begun is not None:
        # Fates of the first kind for all other sendings make the first course that begins so.
        course = finished(turn, load, begun)
        yield tuple(course)
        begun = next_beginning(turn, course, losses)


def count_courses(turn, load, losses):
    """How many whole courses with at most so many losses a calm turn has."""
    check_losses(losses)
    if not is_calm(turn):
        raise BadPart("turn")
    parcels = len(load)
    delays = turn.most - turn.least + 1
    many = 0
    ways = 1
    for lost in range(losses + 1):
        many += comb(parcels + lost - 1, lost) * ways
        ways *= delays + 1
    for _ in range(2 * parcels):
        many *= delays
    return many
