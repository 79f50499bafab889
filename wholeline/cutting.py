"""Cuts of a length into pieces."""

from wholeline.errors import BadPiece
from wholeline.kinds import is_between
from wholeline.pieces import check_goods, check_room, goes, reaches_of


def told_cut(room, cap, length):
    """The told cut, or None."""
    for cut in cuts(room, cap, length):
        return cut
    return None


def cuts(room, cap, length):
    """All cuts of fewest pieces, the told one first, then descending."""
    check_goods(room, cap, length)
    if length == 0:
        yield (0,)
    elif goes(room, cap, length):
        reaches = reaches_of(room, cap)
        needs = needs_of(reaches, length)
        waiting = [(0, ())]
        while waiting:
            held, pieces = waiting.pop()
            if held == length:
                yield pieces
            else:
                # The last one is looked at next, so greater pieces come first.
                for piece in next_pieces(reaches, needs, held):
                    waiting.append((held + piece, (*pieces, piece)))


def needs_of(reaches, length):
    """How many pieces lead from each number of units to a length, None if none do."""
    needs = [None] * length + [0]
    for held in reversed(range(length)):
        behind = [need for need in needs[held + 1:held + 1 + reaches[held]] if need is not None]
        if behind:
            needs[held] = 1 + min([int(need) for need in behind])
    return needs


def next_pieces(reaches, needs, held):
    """The pieces, ascending, behind which one piece less is needed."""
    behind = needs[held + 1:held + 1 + reaches[held]]
    return [piece for piece, need in enumerate(behind, start=1) if need == needs[held] - 1]


def is_right_cut(room, cap, length, value):
    """Whether any value is a cut."""
    check_goods(room, cap, length)
    if not isinstance(value, tuple):
        return False
    if length == 0:
        return len(value) == 1 and is_between(value[0], 0, 0)
    held = 0
    for piece in value:
        if not is_between(piece, 1, room.reach(held, cap)):
            return False
        held += piece
    return held == length


def filled(room, pieces):
    """The tuples (held, told) ahead of the first piece, behind the first one, and so on."""
    check_room(room)
    held = 0
    yield (held, room.told(held))
    for index, piece in enumerate(pieces):
        if not is_between(piece, 0, room.told(held)):
            raise BadPiece(index)
        held += piece
        yield (held, room.told(held))
