"""Nets: whole runs of a line, in which live ends exchange bytes by a fate."""

from wholeline.errors import BadFate, BadPart
from wholeline.kinds import is_between, is_integer, is_list_of, is_tuple_of
from wholeline.lines import check_line, race_of
from wholeline.netplays import Net
from wholeline.races import outcome_of, wrong_of
from wholeline.senders import check_goes
from wholeline.turns import MOST_SENDINGS

MOST_CHANGES = 2


def are_integers(value):
    """Whether any value is a tuple of integers."""
    return isinstance(value, tuple) and all([is_integer(number) for number in value])


def are_goings(value):
    """Whether any value is an ascending tuple of numbers of goings."""
    if not are_integers(value) or not all([number >= 0 for number in value]):
        return False
    return all([one < other for one, other in zip(value, value[1:])])


def are_changes(value):
    """Whether any value is a tuple of one or two tuples of a place and a byte, at unlike places."""
    if not isinstance(value, tuple) or not is_list_of(value, 1, MOST_CHANGES):
        return False
    if not all([are_integers(change) and len(change) == 2 for change in value]):
        return False
    return len(value) == 1 or value[0][0] != value[1][0]


def are_bends(value):
    """Whether any value is a tuple of ascending pairs of a going and its changes."""
    if not isinstance(value, tuple) or not all([is_tuple_of(bend, 2) and are_changes(bend[1]) for bend in value]):
        return False
    return are_goings(tuple([bend[0] for bend in value]))


class Fate:
    """All that the ends of a line do not choose."""

    def __init__(self, width, race, *, delays=(), lost=(), bends=(), offsets=(), keeps=()):
        if not is_integer(width):
            raise BadFate("width")
        if not isinstance(race, tuple):
            raise BadFate("race")
        if not are_integers(delays):
            raise BadFate("delays")
        if not are_goings(lost):
            raise BadFate("lost")
        if not are_bends(bends) or any([going in lost for going, _ in bends]):
            raise BadFate("bends")
        if not isinstance(offsets, tuple) or not all([are_integers(told) for told in offsets]):
            raise BadFate("offsets")
        if not are_integers(keeps):
            raise BadFate("keeps")
        self.width = width
        self.race = race
        self.delays = delays
        self.lost = lost
        self.bends = bends
        self.offsets = offsets
        self.keeps = keeps

    def __eq__(self, other):
        if not isinstance(other, Fate) or self.width != other.width or self.race != other.race:
            return False
        if self.delays != other.delays or self.lost != other.lost or self.bends != other.bends:
            return False
        return self.offsets == other.offsets and self.keeps == other.keeps


class Run:
    """What happens on a line by a fate."""

    def __init__(self, line, fate, going, outcome, events, is_cut):
        self.line = line
        self.fate = fate
        self.going = going
        self.start = outcome.moment
        self.winner = outcome.winner
        self.events = tuple(events)
        self.is_cut = is_cut

    def __eq__(self, other):
        if not isinstance(other, Run) or self.line != other.line or self.fate != other.fate:
            return False
        if self.going != other.going or self.start != other.start or self.winner != other.winner:
            return False
        return self.events == other.events and self.is_cut == other.is_cut


def check_fate(line, fate):
    """Raise BadFate if the width or the race of a fate does not fit a line."""
    if fate.width not in line.widths:
        raise BadFate("width")
    if wrong_of(race_of(line), fate.race):
        raise BadFate("race")


def check_goings(line, way, fate):
    """Raise BadFate for the first part of a fate that does not fit a line on the way that wins."""
    if not all([is_between(delay, way.least, way.most) for delay in fate.delays]):
        raise BadFate("delays")
    if len(fate.lost) + len(fate.bends) > line.losses:
        raise BadFate("lost")
    if len(fate.offsets) > len(way.boxes):
        raise BadFate("offsets")
    for box, offsets in zip(way.boxes, fate.offsets):
        if not all([is_between(offset, box[0], box[1]) for offset in offsets]):
            raise BadFate("offsets")
    if len(fate.keeps) > len(way.boxes):
        raise BadFate("keeps")
    if not all([is_between(keep, box[2], box[3]) for box, keep in zip(way.boxes, fate.keeps)]):
        raise BadFate("keeps")


def going_told(line, going):
    """The width with which the sender goes, the least one for None."""
    if going is None:
        return line.widths[0]
    if not is_integer(going) or going not in line.widths:
        raise BadPart("going")
    return going


def run_line(line, fate, *, going=None):
    """The Run of a line by a fate, with a width with which the sender goes."""
    check_line(line)
    if not isinstance(fate, Fate):
        raise BadPart("fate")
    width = going_told(line, going)
    check_fate(line, fate)
    outcome = outcome_of(race_of(line), fate.race)
    if outcome.winner is None:
        return Run(line, fate, width, outcome, (), False)
    check_goings(line, line.ways[outcome.winner], fate)
    check_goes(line, width)
    net = Net(line, fate, width, outcome)
    net.run()
    return Run(line, fate, width, outcome, net.events, net.sendings == MOST_SENDINGS)
