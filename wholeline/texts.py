"""Texts of lines and of deeds."""

from wholeline.errors import BadText
from wholeline.kinds import is_name
from wholeline.letters import Mail
from wholeline.lines import NUMBERED, Line, check_line
from wholeline.steps import Room, Steps
from wholeline.ways import Way

DIGITS = "0123456789"
MOST_DIGITS = 6
# The words of the lines with one number, in their order, and which of these are settings of the same name.
COUNTED = ("turn", "numbers", "room", "head", "places", "cost", "period", "quiet", "silent", "losses")
# What may stand behind a line with each word.
BEHIND = {
    "": ("way",), "way": ("way", "box", "widths"), "box": ("way", "box", "widths"), "widths": ("turn",),
    "turn": ("numbers",), "numbers": ("room",), "room": ("bounds",), "bounds": ("head",), "head": ("places",),
    "places": ("cost",), "cost": ("period",), "period": ("quiet",), "quiet": ("silent",), "silent": ("losses",),
    "losses": ("row",), "row": ("row", "letter"), "letter": ("row", "letter"),
}
# How many figures a deed has that is written with figures alone.
FIGURES = {"drop": 2, "row": 0, "cut": 0, "start": 3, "wait": 1, "come": 1, "lose": 1, "stop": 0}


def is_figure(word):
    """Whether a word is one to six digits, without a 0 ahead of others."""
    if not 1 <= len(word) <= MOST_DIGITS or not all([sign in DIGITS for sign in word]):
        return False
    return word == "0" or word[0] != "0"


def are_figures(words):
    """Whether all of some words are figures."""
    return all([is_figure(word) for word in words])


def is_begin_told(word):
    """Whether a word tells a begin of a way."""
    return word == "-" or is_figure(word)


def begin_told(word):
    """The begin that a word tells."""
    return None if word == "-" else int(word)


def has_form(words):
    """Whether the words of a line have one of the forms in the text of a Line."""
    word, *parts = words
    if word == "way":
        return len(parts) == 3 and is_begin_told(parts[0]) and are_figures(parts[1:])
    if word == "box":
        return len(parts) == 4 and are_figures(parts)
    if word in ("widths", "bounds"):
        return len(parts) > 0 and are_figures(parts)
    if word == "letter":
        return len(parts) > 0 and is_figure(parts[0]) and all([is_name(head) for head in parts[1:]])
    if word == "row":
        return len(parts) == 0
    return word in COUNTED and len(parts) == 1 and is_figure(parts[0])


def lines_of(text):
    """The list of the lines of a text."""
    if not isinstance(text, str):
        raise BadText(None)
    return text.split("\n")


def words_told(text):
    """The list of the words of each line in the text of a Line."""
    ahead = ""
    told = []
    for index, line in enumerate(lines_of(text)):
        words = line.split(" ")
        if not has_form(words) or words[0] not in BEHIND[ahead]:
            raise BadText(index)
        ahead = words[0]
        told.append(words)
    if ahead not in ("row", "letter"):
        raise BadText(len(told))
    return told


def ways_in(told):
    """The list of the Ways in the words of a text."""
    settings = []
    for word, *parts in told:
        if word == "way":
            settings.append((begin_told(parts[0]), int(parts[1]), int(parts[2]), []))
        elif word == "box":
            settings[-1][3].append(tuple([int(part) for part in parts]))
    return [Way(begin, least, most, boxes) for begin, least, most, boxes in settings]


def rows_in(told):
    """The list of the lists of letters in the words of a text."""
    rows = []
    for word, *parts in told:
        if word == "row":
            rows.append([])
        elif word == "letter":
            rows[-1].append((tuple(parts[1:]), int(parts[0])))
    return rows


def numbers_in(told):
    """A dict with the lists of numbers behind the words for widths, bounds and settings of a text."""
    wanted = ("widths", "bounds", *COUNTED)
    return {words[0]: [int(part) for part in words[1:]] for words in told if words[0] in wanted}


def read_line(text):
    """The Line with this text."""
    told = words_told(text)
    numbers = numbers_in(told)
    ways = ways_in(told)
    settings = {word: numbers[word][0] for word in COUNTED}
    settings["room"] = Room(settings["room"], Steps(numbers["bounds"]))
    mail = Mail(rows_in(told))
    widths = numbers["widths"]
    return Line(mail, ways, widths, **settings)


def joined(words):
    """Some words and numbers as one line, None as a dash."""
    return " ".join(["-" if word is None else str(word) for word in words])


def letter_line(first, letter):
    """The line for a letter behind a first word: its body, and its heads behind that."""
    heads, body = letter
    return joined([first, body, *heads])


def way_lines(way):
    """The lines for a way and its boxes."""
    return [joined(["way", way.begin, way.least, way.most])] + [joined(["box", *box]) for box in way.boxes]


def write_line(line):
    """The text of a Line."""
    check_line(line)
    lines = []
    for way in line.ways:
        lines.extend(way_lines(way))
    lines.extend([
        joined(["widths", *line.widths]), joined(["turn", line.turn]), joined(["numbers", line.numbers]),
        joined(["room", line.room.size]), joined(["bounds", *line.room.steps.bounds]), joined(["head", line.head]),
        joined(["places", line.places]), joined(["cost", line.cost]), joined(["period", line.period]),
        joined(["quiet", line.quiet]), joined(["silent", line.silent]), joined(["losses", line.losses]),
    ])
    for row in line.mail.rows_told():
        lines.append("row")
        lines.extend([letter_line("letter", letter) for letter in row])
    return "\n".join(lines)


def change_in(parts):
    """The change that some words tell, None if they tell none."""
    if len(parts) == 3 and parts[0] == "begin" and is_figure(parts[1]) and is_begin_told(parts[2]):
        return ("begin", int(parts[1]), begin_told(parts[2]))
    if len(parts) == 2 and parts[0] in NUMBERED and is_figure(parts[1]):
        return (parts[0], int(parts[1]))
    return None


def deed_in(text):
    """The deed that one line tells, None if it tells none."""
    words = text.split(" ")
    word, *parts = words
    if word == "change":
        change = change_in(parts)
        return None if change is None else ("change", change)
    if word == "letter":
        if len(parts) < 2 or not are_figures(parts[:2]) or not all([is_name(head) for head in parts[2:]]):
            return None
        return ("letter", int(parts[0]), (tuple(parts[2:]), int(parts[1])))
    if word not in FIGURES or len(parts) != FIGURES[word] or not are_figures(parts):
        return None
    return (word, *[int(part) for part in parts])


def read_deeds(text):
    """The list of the deeds with this text."""
    deeds = []
    lines = lines_of(text)
    if lines == [""]:
        return deeds
    for index, line in enumerate(lines):
        deed = deed_in(line)
        if deed is None:
            raise BadText(index)
        deeds.append(deed)
    return deeds
