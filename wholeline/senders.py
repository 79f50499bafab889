"""The live sender, from the end of the race on."""

from wholeline.books import Book
from wholeline.cutting import told_cut
from wholeline.errors import BadMoment, BadPart, Stuck
from wholeline.forms import check_message, written
from wholeline.kinds import is_between, is_index, is_integer
from wholeline.lines import cap_of, check_line, lengths_of
from wholeline.pieces import goes

MOST_START = 10000
SIGN = ("sign",)


def check_goes(line, width):
    """Raise Stuck for the first letter of a line that does not go with one of its widths."""
    if width < line.head:
        raise Stuck(0)
    for index, length in enumerate(lengths_of(line)):
        if not goes(line.room, cap_of(line, width), length):
            raise Stuck(index)


def check_sender(line, way, width, start):
    """Raise what is wrong with the arguments of a sender."""
    check_line(line)
    if not is_index(way, len(line.ways)) or line.ways[way].begin is None:
        raise BadPart("way")
    if not is_integer(width) or width not in line.widths:
        raise BadPart("width")
    if not is_between(start, 0, MOST_START):
        raise BadMoment(start)
    check_goes(line, width)


class Script:
    """What a sender sends with one width, letter by letter, and how it waits; it never changes."""

    def __init__(self, line, width):
        cap = cap_of(line, width)
        self.cuts_told = tuple([told_cut(line.room, cap, length) for length in lengths_of(line)])
        self.letters = tuple(line.mail.letters_told())
        rows = line.mail.rows_told()
        self.row_ends = tuple([sum([len(row) for row in rows[:many]]) - 1 for many in range(1, len(rows))])
        self.turn = line.turn
        self.numbers = line.numbers
        self.cost = line.cost
        self.period = line.period
        self.quiet = line.quiet


# A stand is a dict that tells where a sender stands; it is never changed, a new one is made for each step.
def first_stand(line, start):
    """The stand of a sender at its start."""
    return {
        "moment": start, "wakes": start, "letter": 0, "piece": 0, "parcel": 0, "units": (),
        "book": Book(line.places), "message": None, "rests": None,
    }


def next_letter(script, stand):
    """The stand behind the last answer to a letter."""
    letter = stand["letter"] + 1
    moment = stand["moment"]
    behind = {**stand, "letter": letter, "piece": 0}
    if letter == len(script.letters):
        return {**behind, "wakes": None}
    if letter - 1 in script.row_ends:
        return in_quiet(script, {**behind, "rests": moment + script.quiet}, moment)
    return {**behind, "wakes": moment}


def in_quiet(script, stand, moment):
    """The stand in a quiet whose beginning, or last sign, was at this moment."""
    sign = moment + script.period
    return {**stand, "wakes": sign if sign < stand["rests"] else stand["rests"]}


def opened(script, stand):
    """The stand in which the next parcel is open."""
    letter = stand["letter"]
    pieces = script.cuts_told[letter]
    piece = stand["piece"]
    units = stand["units"]
    book = stand["book"]
    if piece == 0:
        units, book = written(script.letters[letter], book, script.cost)
    first = sum(pieces[:piece])
    number = int(stand["parcel"]) % script.numbers
    message = ("parcel", number, piece == len(pieces) - 1, units[first:first + pieces[piece]])
    return {**stand, "units": units, "book": book, "message": message, "rests": None}


def sent_by(script, stand):
    """What a sender sends when it wakes, and its stand behind that."""
    moment = stand["wakes"]
    stand = {**stand, "moment": moment}
    if stand["rests"] is not None and moment < stand["rests"]:
        return SIGN, in_quiet(script, stand, moment)
    if stand["message"] is None:
        stand = opened(script, stand)
    return stand["message"], {**stand, "wakes": moment + script.turn}


def closes(stand, message):
    """Whether a message is the answer to the open parcel."""
    return stand["message"] is not None and message[0] == "answer" and message[1] == stand["message"][1]


def heard_by(script, stand, moment, message):
    """The stand of a sender behind a message that comes to it."""
    stand = {**stand, "moment": moment}
    if not closes(stand, message):
        return stand
    is_last = stand["message"][2]
    stand = {**stand, "message": None, "parcel": stand["parcel"] + 1, "wakes": moment}
    return next_letter(script, stand) if is_last else {**stand, "piece": stand["piece"] + 1}


class Sender:
    """The live sender; it changes."""

    def __init__(self, line, way, width, start):
        check_sender(line, way, width, start)
        self.script = Script(line, width)
        self.stand = first_stand(line, start)

    def wake(self):
        """The next moment at which it sends by itself, None if all letters are answered."""
        return self.stand["wakes"]

    def due(self, moment):
        """The list of what it sends at a moment at which it wakes."""
        if self.stand["wakes"] is None or not is_integer(moment) or moment != self.stand["wakes"]:
            raise BadMoment(moment)
        message, self.stand = sent_by(self.script, self.stand)
        return [message]

    def come(self, moment, message):
        """Take what comes."""
        if not is_integer(moment) or moment < self.stand["moment"]:
            raise BadMoment(moment)
        if self.stand["wakes"] is not None and moment > self.stand["wakes"]:
            raise BadMoment(moment)
        check_message(message)
        self.stand = heard_by(self.script, self.stand, moment, message)

    def open_parcel(self):
        """The open parcel, None if there is none."""
        return self.stand["message"]

    def book_now(self):
        """The book as it is now."""
        return self.stand["book"]

    def answered(self):
        """How many letters are answered."""
        return self.stand["letter"]
