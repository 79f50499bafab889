"""The least sets of changes that heal a line, and the least settings without a bar."""

from wholeline.bars import first_bar
from wholeline.boxes import MOST_LOST
from wholeline.errors import BadMenu, BadPart, WholeError
from wholeline.kinds import is_list_of
from wholeline.lines import is_change
from wholeline.linetimes import greatest_time
from wholeline.races import MOST_SILENT
from wholeline.steps import MOST_UNITS, Room
from wholeline.turns import MOST_NUMBERS

MOST_CHANGES = 6


def check_menu(line, menu):
    """Raise BadMenu if any value is no list of up to six changes of a line."""
    if not is_list_of(menu, 0, MOST_CHANGES):
        raise BadMenu(None)
    for index, change in enumerate(menu):
        if not is_change(line, change):
            raise BadMenu(index)


def changed_by(line, changes):
    """The line with some changes, one after the other, None if one of them cannot be made."""
    try:
        for change in changes:
            line = line.changed(change)
    except WholeError:
        return None
    return line


def lots_by_number(many):
    """All lots of so many things, by their number, then ascending."""
    lots = [()]
    looked = 0
    while looked < len(lots):
        first = lots[looked][-1] + 1 if lots[looked] else 0
        lots.extend([(*lots[looked], index) for index in range(first, many)])
        looked += 1
    return lots


def is_part(lot, other):
    """Whether each index of a lot stands in another one."""
    return all([index in other for index in lot])


def heals(line, menu):
    """The list of the pairs (lot, greatest time) of the least heals."""
    check_menu(line, menu)
    told = []
    for lot in lots_by_number(len(menu)):
        # Lesser lots come first, so a part of this one that heals has a least heal in it that is told already.
        if not any([is_part(healing, lot) for healing, _ in told]):
            healed = changed_by(line, [menu[index] for index in lot])
            if healed is not None and first_bar(healed) is None:
                told.append((lot, greatest_time(healed)))
    return told


def least_setting(line, word):
    """The least numbers or room, or the most silent ways or losses, without a bar, None if there are none."""
    for value in values_of(word):
        setting = Room(value, line.room.steps) if word == "room" else value
        if first_bar(line.with_setting(word, setting)) is None:
            return value
    return None


def values_of(word):
    """The values of a setting in the order in which they are tried."""
    if isinstance(word, str):
        if word == "numbers":
            return list(range(2, MOST_NUMBERS + 1))
        if word == "room":
            return list(range(1, MOST_UNITS + 1))
        if word == "silent":
            return list(range(MOST_SILENT, -1, -1))
        if word == "losses":
            return list(range(MOST_LOST, 0, -1))
    raise BadPart(word)
