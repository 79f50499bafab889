"""Plain searches over small rooms, which the tests of Part 2 share."""

from itertools import combinations

from wholeline.steps import Room, Steps


def small_rooms(most_size=7, most_bounds=3):
    """Rooms of small sizes, with bounds above the size among them."""
    for size in range(1, most_size + 1):
        for many in range(1, most_bounds + 1):
            for bounds in combinations(range(1, size + 2), many):
                yield Room(size, Steps(bounds))


def plain_reach(size, bounds, held, cap):
    return min([cap, max([bound for bound in bounds if bound <= size - held] + [0])])


def plain_cuts(size, bounds, cap, length):
    """All cuts of a length, however many pieces they have."""
    if length == 0:
        return [(0,)]
    found = []

    def go_on(held, pieces):
        if held == length:
            found.append(pieces)
        elif held < length:
            for piece in range(1, plain_reach(size, bounds, held, cap) + 1):
                go_on(held + piece, pieces + (piece,))

    go_on(0, ())
    return found


def cuts_of(room, cap, length):
    return plain_cuts(room.size, room.steps.bounds, cap, length)


def fewest_cuts_of(room, cap, length):
    """The cuts of fewest pieces, descending."""
    cuts = cuts_of(room, cap, length)
    least = min([len(cut) for cut in cuts], default=0)
    return sorted([cut for cut in cuts if len(cut) == least], reverse=True)
