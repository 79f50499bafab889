"""Lines: all settings of what goes from one end to the other."""

from wholeline.books import MOST_PLACES
from wholeline.boxes import MOST_LOST, MOST_PERIOD, Road
from wholeline.errors import BadChange, BadPart
from wholeline.kinds import is_between, is_index, is_integer, is_list_of, is_told_by, is_tuple_of
from wholeline.lengths import letter_lengths
from wholeline.letters import Mail
from wholeline.pieces import fewest_by, layers
from wholeline.races import MOST_SILENT, Race, check_way, check_ways
from wholeline.steps import Room, Steps
from wholeline.turns import MOST_NUMBERS, MOST_QUIET, MOST_TURN, Load, Turn
from wholeline.widths import MOST_WIDTH, MOST_WIDTHS

MOST_HEAD = 8
LEAST_COST = 2
MOST_COST = 9
# The words of the changes that put one number in the place of another one.
NUMBERED = ("turn", "numbers", "room", "period", "head", "bound")


def are_widths(value):
    """Whether any value is a rising list of one to eight widths."""
    if not is_list_of(value, 1, MOST_WIDTHS) or not all([is_between(width, 1, MOST_WIDTH) for width in value]):
        return False
    return all([one < other for one, other in zip(value, value[1:])])


def check_part(word, value, low, high):
    """Raise BadPart with this word if any value is no integer from low to high."""
    if not is_between(value, low, high):
        raise BadPart(word)


def check_boxes(ways, turn):
    """Raise BadPart if a turn is too short for a planned way with a box."""
    for way in ways:
        if way.begin is not None and way.boxes and turn < 2 * way.most:
            raise BadPart("turn")


class Line:
    """A line, which never changes."""

    def __init__(self, mail, ways, widths, *, turn, numbers, room, head, places, cost, period, quiet, silent, losses):
        if not isinstance(mail, Mail):
            raise BadPart("mail")
        check_ways(ways)
        if not are_widths(widths):
            raise BadPart("widths")
        check_part("turn", turn, 1, MOST_TURN)
        check_part("numbers", numbers, 2, MOST_NUMBERS)
        if not isinstance(room, Room):
            raise BadPart("room")
        check_part("head", head, 1, MOST_HEAD)
        check_part("places", places, 0, MOST_PLACES)
        check_part("cost", cost, LEAST_COST, MOST_COST)
        check_part("period", period, 1, MOST_PERIOD)
        check_part("quiet", quiet, 1, MOST_QUIET)
        check_part("silent", silent, 0, MOST_SILENT)
        check_part("losses", losses, 1, MOST_LOST)
        check_boxes(ways, turn)
        self.mail = mail
        self.ways = tuple(ways)
        self.widths = tuple(widths)
        self.turn = turn
        self.numbers = numbers
        self.room = room
        self.head = head
        self.places = places
        self.cost = cost
        self.period = period
        self.quiet = quiet
        self.silent = silent
        self.losses = losses

    def changed(self, change):
        """The line with a change."""
        if not is_change(self, change):
            raise BadChange(change)
        word = change[0]
        number = change[-1]
        if word == "begin":
            ways = list(self.ways)
            ways[change[1]] = ways[change[1]].begun_at(number)
            return self.with_setting("ways", ways)
        if word == "room":
            return self.with_setting("room", Room(number, self.room.steps))
        if word == "bound":
            steps = Steps(bounds_with(self.room.steps.bounds, number))
            return self.with_setting("room", Room(self.room.size, steps))
        return self.with_setting(word, number)

    def with_setting(self, word, value):
        """The line with another argument of Line."""
        settings = settings_of(self)
        if not isinstance(word, str) or word not in settings:
            raise BadPart(word)
        settings[word] = value
        return Line(**settings)

    def __eq__(self, other):
        if not isinstance(other, Line) or self.mail != other.mail or self.ways != other.ways:
            return False
        if self.widths != other.widths or self.turn != other.turn or self.numbers != other.numbers:
            return False
        if self.room != other.room or self.head != other.head or self.places != other.places:
            return False
        if self.cost != other.cost or self.period != other.period or self.quiet != other.quiet:
            return False
        return self.silent == other.silent and self.losses == other.losses


def check_line(line):
    """Raise BadPart if any value is no Line."""
    if not isinstance(line, Line):
        raise BadPart("line")


def settings_of(line):
    """A dict with the arguments of a line."""
    return {
        "mail": line.mail, "ways": line.ways, "widths": line.widths, "turn": line.turn, "numbers": line.numbers,
        "room": line.room, "head": line.head, "places": line.places, "cost": line.cost, "period": line.period,
        "quiet": line.quiet, "silent": line.silent, "losses": line.losses,
    }


def is_change(line, value):
    """Whether any value is a change of a line by its form."""
    if is_told_by(value, "begin", 3):
        return is_index(value[1], len(line.ways)) and (value[2] is None or is_integer(value[2]))
    if not is_tuple_of(value, 2) or not isinstance(value[0], str):
        return False
    return value[0] in NUMBERED and is_integer(value[1])


def bounds_with(bounds, bound):
    """The bounds, in order, with another one in the place of the least one."""
    return sorted(set([int(told) for told in (*bounds[1:], bound)]))


def lengths_of(line):
    """The list of the lengths of all letters of a line."""
    return letter_lengths(line.mail, line.places, line.cost)


def cap_of(line, width):
    """The greatest piece that fits a parcel of a width, 0 if not even the head units do."""
    return width - line.head if width > line.head else 0


def load_of(line, width):
    """The Load of a line with one of its widths, None if there is none."""
    if not is_integer(width) or width not in line.widths:
        raise BadPart("widths")
    tops = layers(line.room, cap_of(line, width))
    parcels = [fewest_by(tops, length) for length in lengths_of(line)]
    if width < line.head or None in parcels:
        return None
    rows = []
    first = 0
    for row in line.mail.rows_told():
        rows.append(sum(parcels[first:first + len(row)]))
        first += len(row)
    return Load(rows, line.quiet)


def least_load(line):
    """The Load of a line with its least width, None if there is none."""
    return load_of(line, line.widths[0])


def race_of(line):
    """The Race of the ways of a line."""
    return Race(line.ways, line.silent)


def turn_on(line, way):
    """The Turn of a line on one of its ways."""
    check_way(line, way)
    told = line.ways[way]
    return Turn(told.least, told.most, line.turn, line.numbers)


def road_on(line, way):
    """The Road of a way, None if it has no box or cannot win, or if no load goes with the least width."""
    check_way(line, way)
    told = line.ways[way]
    last = race_of(line).last_win(way)
    load = least_load(line)
    if not told.boxes or last is None or load is None:
        return None
    return Road(told, last, line.turn, line.losses, load.rows, line.quiet, line.period)
