"""Two lines beside each other: whether one is milder."""


def has_milder_room(room, other):
    """Whether a room is as great as another one, and has the same least bound and all of its bounds."""
    bounds, others = room.steps.bounds, other.steps.bounds
    if room.size < other.size or bounds[0] != others[0]:
        return False
    return all([bound in bounds for bound in others])


def is_milder(line, other):
    """Whether a line is milder than another one."""
    if line.mail != other.mail or line.ways != other.ways or line.turn != other.turn:
        return False
    if line.period != other.period or line.quiet != other.quiet:
        return False
    if line.numbers < other.numbers or line.widths[0] < other.widths[0] or line.places < other.places:
        return False
    if line.head > other.head or line.cost > other.cost or line.silent > other.silent or line.losses > other.losses:
        return False
    return has_milder_room(line.room, other.room)
