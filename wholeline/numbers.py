"""Whether numbers and turn take each parcel of a load once and in order."""

from wholeline.kinds import greater
from wholeline.turns import MOST_NUMBERS, Turn


def is_calm(turn):
    """Whether a turn is so long that nothing is on its way when it is over."""
    return turn.turn >= 2 * turn.most


def last_resend(turn):
    """How often a parcel is sent again, if nothing is lost and its answer comes as late as can be."""
    return (2 * turn.most - 1) // turn.turn


def least_rest(turn):
    """The least time from the last sending of a parcel to its closing."""
    return greater(1, 2 * turn.least - last_resend(turn) * turn.turn)


def copy_excess(turn):
    """How much later than its number is waited for again a copy can come, without borders."""
    return turn.most - least_rest(turn) - (2 * turn.numbers - 3) * turn.least


def answer_excess(turn):
    """How much later than its number is opened again an answer can come, without borders."""
    return 2 * turn.most - least_rest(turn) - (2 * turn.numbers - 2) * turn.least


def fails(load, first, last, excess):
    """Whether the borders between two parcels, the later one in the load, take up too little."""
    return last < len(load) and excess > load.quiet * load.borders(first, last)


def first_fault(turn, load):
    """The first fault of a load, None if it holds."""
    copy = copy_excess(turn)
    answer = answer_excess(turn)
    # An answer is never less late than a copy.
    if is_calm(turn) or answer <= 0:
        return None
    for parcel in range(len(load)):
        if fails(load, parcel, parcel + turn.numbers - 1, copy):
            return ("copy", parcel)
        if fails(load, parcel, parcel + turn.numbers, answer):
            return ("answer", parcel)
    return None


def holds(turn, load):
    """Whether a load holds with a turn."""
    return first_fault(turn, load) is None


def least_numbers(turn, load):
    """The least numbers with which a load holds, None if there are none."""
    for numbers in range(2, MOST_NUMBERS + 1):
        if holds(Turn(turn.least, turn.most, turn.turn, numbers), load):
            return numbers
    return None


def safe_turn(turn, load):
    """The least turn from which on a load holds."""
    safe = 2 * turn.most
    while safe > 1 and holds(Turn(turn.least, turn.most, safe - 1, turn.numbers), load):
        safe -= 1
    return safe
