"""Courses that show why a load does not hold."""

from wholeline.kinds import greater
from wholeline.numbers import first_fault, last_resend, least_rest


def slow_wait(turn):
    """How long the parcel waits whose last sending comes, or is answered, too late."""
    return last_resend(turn) * turn.turn + least_rest(turn)


def opened_at(turn, load, slow, parcel):
    """When a parcel is opened, if one parcel waits longer and all other ones as short as can be."""
    opened = 2 * turn.least * parcel + load.quiet * load.borders(0, parcel)
    return opened if parcel <= slow else opened + slow_wait(turn) - 2 * turn.least


def answered_behind(turn, both):
    """The fate of a sending whose answer comes so much later."""
    there = greater(turn.least, both - turn.most)
    return ("answered", there, both - there)


def slow_fates(turn, last):
    """The fates of the parcel that waits longer, the last one being given."""
    # The answer to the first sending closes the parcel; those to the ones between come behind that, and to no
    # parcel of this number that is open, as long as the last one is on its way.
    between = [("answered", turn.most, turn.most)] * (last_resend(turn) - 1)
    return [answered_behind(turn, slow_wait(turn)), *between, last]


def fates_until(turn, load, slow, last, end):
    """The fates of all sendings of the parcels that are opened ahead of a moment, if one parcel waits longer."""
    often = (2 * turn.least - 1) // turn.turn + 1
    quick_fates = [("answered", turn.least, turn.least)] * often
    fates = []
    for parcel in range(len(load)):
        if opened_at(turn, load, slow, parcel) >= end:
            return fates
        fates.extend(slow_fates(turn, last) if parcel == slow else quick_fates)
    return fates


def copy_course(turn, load, parcel):
    """A course in which a copy of a parcel comes just when its number is waited for again."""
    sent = opened_at(turn, load, parcel, parcel) + last_resend(turn) * turn.turn
    comes = opened_at(turn, load, parcel, parcel + turn.numbers - 1) + turn.least + 1
    last = ("answered", comes - sent, turn.most)
    return tuple(fates_until(turn, load, parcel, last, comes))


def answer_course(turn, load, parcel):
    """A course in which an answer to a parcel comes just when its number is opened again, and that is lost."""
    sent = opened_at(turn, load, parcel, parcel) + last_resend(turn) * turn.turn
    opened = opened_at(turn, load, parcel, parcel + turn.numbers)
    last = answered_behind(turn, opened + 1 - sent)
    return (*fates_until(turn, load, parcel, last, opened), ("lost",))


def fault_course(turn, load):
    """A course that shows the first fault of a load, None if it holds."""
    fault = first_fault(turn, load)
    if fault is None:
        return None
    kind, parcel = fault
    return copy_course(turn, load, parcel) if kind == "copy" else answer_course(turn, load, parcel)
