"""Whether a length goes through a room in pieces, and in how many."""

from wholeline.errors import BadNumber, BadPart
from wholeline.kinds import is_between, lesser
from wholeline.steps import MOST_CAP, Room, check_cap

MOST_LENGTH = 99


def check_room(room):
    """Raise BadPart if any value is no Room."""
    if not isinstance(room, Room):
        raise BadPart("room")


def check_length(length):
    """Raise BadNumber if any value is no length."""
    if not is_between(length, 0, MOST_LENGTH):
        raise BadNumber(length)


def check_goods(room, cap, length):
    """Raise what is wrong with a room, a cap and a length."""
    check_room(room)
    check_cap(cap)
    check_length(length)


def goes(room, cap, length):
    """Whether a length goes through a room by a cap."""
    check_goods(room, cap, length)
    return length <= room.top(cap)


def reaches_of(room, cap):
    """The list of the reaches while 0, 1, 2 .. units are held."""
    return [room.reach(held, cap) for held in range(room.size + 1)]


def top_behind(reaches, top):
    """The greatest sum of a number from 0 to top, as far as the size, and its reach."""
    last = lesser(top, len(reaches) - 1)
    return max([int(held + reaches[held]) for held in range(last + 1)])


def layers(room, cap):
    """The list of the greatest numbers of units held behind 0, 1, 2 .. pieces."""
    check_room(room)
    check_cap(cap)
    reaches = reaches_of(room, cap)
    tops = [0]
    while top_behind(reaches, tops[-1]) > tops[-1]:
        tops.append(top_behind(reaches, tops[-1]))
    return tops


def fewest(room, cap, length):
    """The fewest pieces of a cut, or None."""
    check_goods(room, cap, length)
    return fewest_by(layers(room, cap), length)


def fewest_by(tops, length):
    """The fewest pieces of a length by the layers of a room, or None."""
    if length == 0:
        return 1
    # Each number of units up to a layer can be held behind as many pieces.
    for pieces, top in enumerate(tops):
        if top >= length:
            return pieces
    return None


def least_cap(room, length):
    """The least cap by which a length goes, or None."""
    check_room(room)
    check_length(length)
    for cap in range(MOST_CAP + 1):
        if goes(room, cap, length):
            return cap
    return None


def greedy(room, cap, length):
    """The greedy cut, or its pieces until it is stuck, and whether it went through."""
    check_goods(room, cap, length)
    if length == 0:
        return (0,), True
    pieces = []
    held = 0
    while held < length:
        piece = lesser(room.reach(held, cap), length - held)
        if piece == 0:
            return tuple(pieces), False
        pieces.append(piece)
        held += piece
    return tuple(pieces), True
