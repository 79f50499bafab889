"""Turns, loads, and the courses by which parcels go."""

from wholeline.errors import BadCourse, BadPart, TooMany
from wholeline.kinds import is_between, is_list, is_list_of, is_told_by
from wholeline.plays import shown_by
from wholeline.ways import MOST_DELAY

MOST_TURN = 200
MOST_NUMBERS = 8
MOST_ROWS = 3
MOST_PARCELS = 600
MOST_QUIET = 500
MOST_LOSSES = 3
MOST_SENDINGS = 5000


class Turn:
    """The delays, the turn and the numbers by which parcels are sent."""

    def __init__(self, least, most, turn, numbers):
        if not is_between(least, 1, MOST_DELAY):
            raise BadPart("least")
        if not is_between(most, least, MOST_DELAY):
            raise BadPart("most")
        if not is_between(turn, 1, MOST_TURN):
            raise BadPart("turn")
        if not is_between(numbers, 2, MOST_NUMBERS):
            raise BadPart("numbers")
        self.least = least
        self.most = most
        self.turn = turn
        self.numbers = numbers

    def __eq__(self, other):
        if not isinstance(other, Turn) or self.least != other.least or self.most != other.most:
            return False
        return self.turn == other.turn and self.numbers == other.numbers


def are_rows(value):
    """Whether any value is a list of the numbers of parcels of one to three rows."""
    return is_list_of(value, 1, MOST_ROWS) and all([is_between(row, 1, MOST_PARCELS) for row in value])


class Load:
    """The numbers of parcels of the rows, and the quiet between these."""

    def __init__(self, rows, quiet):
        if not are_rows(rows):
            raise BadPart("rows")
        if not is_between(quiet, 1, MOST_QUIET):
            raise BadPart("quiet")
        self.rows = tuple(rows)
        self.quiet = quiet

    def borders(self, first, last):
        """How many borders lie between two parcels, the first one not above the last one."""
        ends = [sum(self.rows[:many]) - 1 for many in range(1, len(self.rows))]
        return sum([1 for end in ends if first <= end < last])

    def __len__(self):
        return len(range(sum(self.rows)))

    def __eq__(self, other):
        return isinstance(other, Load) and self.rows == other.rows and self.quiet == other.quiet


def is_fate(turn, value):
    """Whether any value is the fate of a sending."""
    if is_told_by(value, "lost", 1):
        return True
    if is_told_by(value, "come", 2) or is_told_by(value, "answered", 3):
        return all([is_between(delay, turn.least, turn.most) for delay in value[1:]])
    return False


def is_course(turn, value):
    """Whether any value is a course."""
    return isinstance(value, tuple) and all([is_fate(turn, fate) for fate in value])


def check_losses(losses):
    """Raise BadPart if any value is no number of losses."""
    if not is_between(losses, 0, MOST_LOSSES):
        raise BadPart("losses")


def play(turn, load, course):
    """What a course shows."""
    if not is_list(course):
        raise BadCourse(None)
    for index, fate in enumerate(course):
        if not is_fate(turn, fate):
            raise BadCourse(index)
    shown = shown_by(turn, load, course)
    if len(shown.sent) > MOST_SENDINGS:
        raise TooMany(MOST_SENDINGS)
    return shown


def is_right(load, played):
    """Whether what was played is a whole right course."""
    if played.short or played.idle > 0:
        return False
    parcels = [played.sent[sending][1] for _, sending in played.taken]
    return parcels == list(range(len(load)))
