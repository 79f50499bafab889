"""Boxes, roads on which they keep the way, and the lulls between rows."""

from wholeline.errors import BadPart
from wholeline.kinds import is_between
from wholeline.turns import MOST_QUIET, MOST_TURN, are_rows
from wholeline.ways import MOST_DELAY, Way

MOST_LOST = 3
MOST_PERIOD = 200


def spread_of(box):
    """How much later than another thing one can come to a box, sent at the same moment."""
    return box[1] - box[0]


def slack_of(box):
    """The greatest gap in which a box never forgets."""
    return box[2] - spread_of(box)


def check_lull(delay, turn, losses):
    """Raise BadPart for the first one that does not fit: a turn for a most delay, or a number of losses."""
    if not is_between(turn, 2 * delay, MOST_TURN):
        raise BadPart("turn")
    if not is_between(losses, 1, MOST_LOST):
        raise BadPart("losses")


def check_quiet(quiet):
    """Raise BadPart if any value is no quiet."""
    if not is_between(quiet, 1, MOST_QUIET):
        raise BadPart("quiet")


class Road:
    """A planned way as it is used when it wins."""

    def __init__(self, way, last, turn, losses, rows, quiet, period):
        if not isinstance(way, Way) or way.begin is None:
            raise BadPart("way")
        first, end = way.window()
        if not is_between(last, first, end):
            raise BadPart("last")
        check_lull(way.most, turn, losses)
        if not are_rows(rows):
            raise BadPart("rows")
        check_quiet(quiet)
        if not is_between(period, 1, MOST_PERIOD):
            raise BadPart("period")
        self.way = way
        self.last = last
        self.turn = turn
        self.losses = losses
        self.rows = tuple(rows)
        self.quiet = quiet
        self.period = period

    def __eq__(self, other):
        if not isinstance(other, Road) or self.way != other.way or self.last != other.last:
            return False
        if self.turn != other.turn or self.losses != other.losses or self.rows != other.rows:
            return False
        return self.quiet == other.quiet and self.period == other.period


class Lull:
    """The quiet between two rows, and what goes on around it."""

    def __init__(self, delay, turn, losses, quiet):
        if not is_between(delay, 1, MOST_DELAY):
            raise BadPart("delay")
        check_lull(delay, turn, losses)
        check_quiet(quiet)
        self.delay = delay
        self.turn = turn
        self.losses = losses
        self.quiet = quiet

    def __eq__(self, other):
        if not isinstance(other, Lull) or self.delay != other.delay or self.turn != other.turn:
            return False
        return self.losses == other.losses and self.quiet == other.quiet


def lull_of(road):
    """The lull between the rows of a road, None if it has one row."""
    if len(road.rows) == 1:
        return None
    return Lull(road.way.most, road.turn, road.losses, road.quiet)
