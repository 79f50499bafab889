"""What the sender saw: waits, and how many losses they need."""

from wholeline.errors import BadWait
from wholeline.kinds import greater, is_between, is_list
from wholeline.waytimes import check_safe

MOST_WAIT = 10000


def waits_of(played):
    """The tuple of the waits of the closed parcels."""
    opened = {}
    for moment, parcel in played.sent:
        opened.setdefault(parcel, moment)
    return tuple([moment - opened[parcel] for moment, parcel, _ in played.closed])


def check_waits(load, waits):
    """Raise BadWait if any value is no list with a wait for each parcel."""
    if not is_list(waits):
        raise BadWait(None)
    for index, wait in enumerate(waits):
        if not is_between(wait, 1, MOST_WAIT):
            raise BadWait(index)
    if len(waits) != len(load):
        raise BadWait(None)


def losses_for(turn, wait):
    """The fewest losses with which a parcel waits so long, None if it never does."""
    # A wait of at most this much needs none, each further turn or part of one needs one more.
    over = wait - 2 * turn.most
    losses = greater(0, (over + turn.turn - 1) // turn.turn)
    return losses if wait >= losses * turn.turn + 2 * turn.least else None


def fewest_losses(turn, load, waits):
    """The fewest losses with which all parcels wait so long, None if they never do."""
    check_waits(load, waits)
    check_safe(turn, load)
    losses = [losses_for(turn, wait) for wait in waits]
    return None if None in losses else sum(losses)
