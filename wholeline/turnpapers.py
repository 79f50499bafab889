"""Papers of faults and of times."""

from wholeline.kinds import is_integer, is_told_by
from wholeline.plays import losses_of, shown_by
from wholeline.turns import check_losses, is_course, is_right
from wholeline.waytimes import check_time, taken_earliest, taken_latest


def may_be(turn, losses, course):
    """Whether any value is a course with at most so many losses."""
    return is_course(turn, course) and losses_of(course) <= losses


def shows_fault(turn, load, losses, paper):
    """Whether any value is a paper of a fault with at most so many losses."""
    check_losses(losses)
    if not is_told_by(paper, "fault", 2) or not may_be(turn, losses, paper[1]):
        return False
    return shown_by(turn, load, paper[1]).fault


def time_told(turn, load, losses, parcel, paper):
    """The moment that a paper with any word has to tell, None for a word of no paper."""
    if is_told_by(paper, "latest", 3):
        return taken_latest(turn, load, losses, parcel)
    if is_told_by(paper, "earliest", 3):
        return taken_earliest(turn, load, parcel)
    return None


def shows_time(turn, load, losses, parcel, paper):
    """Whether any value is a paper of a time of a parcel, with at most so many losses."""
    check_time(turn, load, losses, parcel)
    moment = time_told(turn, load, losses, parcel, paper)
    if moment is None or not is_integer(paper[1]) or paper[1] != moment:
        return False
    if not may_be(turn, losses, paper[2]):
        return False
    shown = shown_by(turn, load, paper[2])
    # In a right course the parcels are taken in the order of their indexes.
    return is_right(load, shown) and shown.taken[parcel][0] == moment
