"""The times of loads that hold, and courses that reach them."""

from wholeline.errors import BadIndex, TooMany, Unsafe
from wholeline.kinds import is_index
from wholeline.numbers import first_fault, last_resend
from wholeline.turns import MOST_SENDINGS, check_losses


def check_parcel(load, parcel):
    """Raise BadIndex if any value is no index of a parcel."""
    if not is_index(parcel, len(load)):
        raise BadIndex(parcel)


def check_safe(turn, load):
    """Raise Unsafe if a load does not hold."""
    fault = first_fault(turn, load)
    if fault is not None:
        raise Unsafe(fault)


def check_time(turn, load, losses, parcel):
    """Raise what is wrong with what a time is asked for."""
    check_losses(losses)
    check_parcel(load, parcel)
    check_safe(turn, load)


def taken_at(load, parcel, delay):
    """When a parcel is taken, if each delay is this one and nothing is lost."""
    return (2 * parcel + 1) * delay + load.borders(0, parcel) * load.quiet


def taken_latest(turn, load, losses, parcel):
    """The latest moment at which a parcel is taken."""
    check_time(turn, load, losses, parcel)
    return taken_at(load, parcel, turn.most) + losses * turn.turn


def taken_earliest(turn, load, parcel):
    """The earliest moment at which a parcel is taken."""
    check_parcel(load, parcel)
    check_safe(turn, load)
    return taken_at(load, parcel, turn.least)


def most_sendings(turn, load, losses):
    """How often the sender sends at most."""
    check_losses(losses)
    check_safe(turn, load)
    return len(load) * (last_resend(turn) + 1) + losses


def check_sendings(many):
    """Raise TooMany for a course of so many sendings."""
    if many > MOST_SENDINGS:
        raise TooMany(MOST_SENDINGS)


def latest_course(turn, load, losses):
    """A course in which each parcel is taken at the latest, with the most sendings."""
    many = most_sendings(turn, load, losses)
    check_sendings(many)
    # All that is lost is lost ahead of the first taking, so each parcel waits for it.
    return (("lost",),) * losses + (("answered", turn.most, turn.most),) * (many - losses)


def earliest_course(turn, load):
    """A course in which each parcel is taken at the earliest, with as few sendings as can be."""
    check_safe(turn, load)
    many = len(load) * ((2 * turn.least - 1) // turn.turn + 1)
    check_sendings(many)
    return (("answered", turn.least, turn.least),) * many
