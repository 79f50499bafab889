"""The live reader."""

from wholeline.books import Book
from wholeline.errors import BadBytes, BadMoment
from wholeline.forms import is_from_sender, message_in, read_letter
from wholeline.kinds import is_integer
from wholeline.lines import check_line


# A reading is a dict that tells how far a reader has read; it is never changed, a new one is made for each step.
def first_reading(line):
    """The reading of a reader to which nothing has come."""
    return {"moment": 0, "taken": 0, "held": (), "letters": (), "book": Book(line.places), "thrown": 0}


def number_awaited(line, reading):
    """The number that a reader waits for."""
    return int(reading["taken"]) % line.numbers


def units_free(line, reading):
    """How many units are free in the room of a reader."""
    return line.room.size - len(reading["held"])


def bound_told(line, reading):
    """What the room of a reader tells."""
    return line.room.told(len(reading["held"]))


def thrown_away(reading):
    """The reading behind something that is thrown away."""
    return {**reading, "thrown": reading["thrown"] + 1}


def read_by(line, reading, moment, message):
    """The list of a reader's answers to a message, or to bytes of no message (None), and its reading behind that."""
    reading = {**reading, "moment": moment}
    if message is None or not is_from_sender(message):
        return [], thrown_away(reading)
    if message[0] == "begin":
        return [("hello", bound_told(line, reading))], reading
    if message[0] == "probe":
        return [("seen", message[1], bound_told(line, reading))], reading
    if message[0] == "parcel":
        return parcel_read(line, reading, message)
    return [], reading


def parcel_read(line, reading, message):
    """The list of a reader's answers to a parcel, and its reading behind that."""
    number, is_last, units = message[1:]
    if number != number_awaited(line, reading):
        return [("answer", number, bound_told(line, reading))], thrown_away(reading)
    if len(units) > units_free(line, reading):
        return [], thrown_away(reading)
    reading = {**reading, "taken": reading["taken"] + 1, "held": (*reading["held"], *units)}
    if is_last:
        reading = letter_told(reading)
    return [("answer", number, bound_told(line, reading))], reading


def letter_told(reading):
    """The reading behind the last piece of a letter."""
    letter, book = read_letter(reading["held"], reading["book"])
    letters = (*reading["letters"], (reading["moment"], letter))
    return {**reading, "held": (), "letters": letters, "book": book}


class Reader:
    """The live reader; it changes."""

    def __init__(self, line):
        check_line(line)
        self.line = line
        self.reading = first_reading(line)

    def come(self, moment, data):
        """Take bytes, and tell the list of the messages with which it answers."""
        if not is_integer(moment) or moment < self.reading["moment"]:
            raise BadMoment(moment)
        if not isinstance(data, bytes):
            raise BadBytes(data)
        answers, self.reading = read_by(self.line, self.reading, moment, message_in(data))
        return answers

    def waits(self):
        """The number that it waits for."""
        return number_awaited(self.line, self.reading)

    def held_units(self):
        """The tuple of the units that it holds."""
        return self.reading["held"]

    def free_room(self):
        """How many units are free in its room."""
        return units_free(self.line, self.reading)

    def told_letters(self):
        """The list of the tuples (moment, letter) of all letters that are whole."""
        return list(self.reading["letters"])

    def book_now(self):
        """The book as it is now."""
        return self.reading["book"]

    def thrown(self):
        """How many lots of bytes it threw away."""
        return self.reading["thrown"]
