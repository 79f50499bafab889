"""Bars: what keeps a line from telling each letter once and in order."""

from wholeline.boxes import slack_of
from wholeline.gaps import greatest_gap
from wholeline.lines import cap_of, least_load, lengths_of, race_of, road_on, turn_on
from wholeline.numbers import holds
from wholeline.pieces import goes


def is_narrow(line, length):
    """Whether the least width has no unit for a letter of this length beside the head units."""
    width = line.widths[0]
    return width < line.head or (width == line.head and length > 0)


def letter_bars(line):
    """The bars of the letters with the least width: the first narrow one and the first stuck one."""
    lengths = lengths_of(line)
    cap = cap_of(line, line.widths[0])
    narrow = [("width", index) for index, length in enumerate(lengths) if is_narrow(line, length)]
    stuck = [("room", index) for index, length in enumerate(lengths) if not goes(line.room, cap, length)]
    return narrow[:1] + stuck[:1]


def forgetting_boxes(line, way):
    """The list of the indexes of the boxes of a way that can forget it."""
    road = road_on(line, way)
    if road is None:
        return []
    greatest = greatest_gap(road)
    return [index for index, box in enumerate(road.way.boxes) if slack_of(box) < greatest]


def way_bars(line):
    """The bars of the ways that can win, none if no load goes with the least width."""
    load = least_load(line)
    if load is None:
        return []
    winners = race_of(line).winners()
    told = [("numbers", way) for way in winners if not holds(turn_on(line, way), load)]
    for way in winners:
        told.extend([("boxes", way, index) for index in forgetting_boxes(line, way)[:1]])
    return told


def bars(line):
    """The list of all bars, in order."""
    unplanned = [("ways",)] if len(race_of(line).planned()) <= line.silent else []
    return unplanned + letter_bars(line) + way_bars(line)


def first_bar(line):
    """The first bar, None if there is none."""
    told = bars(line)
    return told[0] if told else None
