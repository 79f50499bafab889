"""Stops and gaps: for how long a box may see nothing."""

from wholeline.boxes import MOST_PERIOD, lull_of, slack_of
from wholeline.errors import BadNumber, BadSign
from wholeline.kinds import is_between, is_list


def is_sign_behind(lull, signs, index):
    """Whether an item of a list is a sign behind the one ahead of it."""
    least = 1 if index == 0 else signs[index - 1] + 1
    return is_between(signs[index], least, lull.quiet - 1)


def check_signs(lull, signs):
    """Raise BadSign if any value is no list of signs of a lull."""
    if not is_list(signs):
        raise BadSign(0)
    for index in range(len(signs)):
        if not is_sign_behind(lull, signs, index):
            raise BadSign(index)


def are_signs(lull, value):
    """Whether any value is a tuple of signs of a lull."""
    if not isinstance(value, tuple):
        return False
    for index in range(len(value)):
        if not is_sign_behind(lull, value, index):
            return False
    return True


def stops_of(lull, signs):
    """The stops of signs that are known to be some."""
    sent = [lull.quiet + lost * lull.turn for lost in range(lull.losses + 1)]
    return (-2 * lull.delay, *signs, *sent)


def widest(lull, told):
    """The greatest difference of two of the stops between which all can be lost."""
    behind = told[lull.losses + 1:]
    return max([int(later - sooner) for sooner, later in zip(told, behind)])


def stops(lull, signs):
    """The stops of signs."""
    check_signs(lull, signs)
    return stops_of(lull, signs)


def quiet_gap(lull, signs):
    """The quiet gap of signs."""
    return widest(lull, stops(lull, signs))


def signs_each(lull, period):
    """The signs of a period that is known to be one."""
    return tuple(range(period, lull.quiet, period))


def period_signs(lull, period):
    """The signs of a period."""
    if not is_between(period, 1, MOST_PERIOD):
        raise BadNumber(period)
    return signs_each(lull, period)


def race_gap(road):
    """The race gap of a road."""
    return road.last - road.way.begin + road.losses * road.turn


def row_gap(road):
    """The row gap of a road, None if no row has two parcels."""
    if not any([row > 1 for row in road.rows]):
        return None
    return 2 * road.way.most + road.losses * road.turn


def rest_gap(road):
    """The quiet gap of a road, None if it has one row."""
    lull = lull_of(road)
    if lull is None:
        return None
    return widest(lull, stops_of(lull, signs_each(lull, road.period)))


def gaps_told(road):
    """The pairs (word, gap) of the gaps that there are."""
    pairs = [("race", race_gap(road)), ("row", row_gap(road)), ("quiet", rest_gap(road))]
    return [(word, gap) for word, gap in pairs if gap is not None]


def greatest_gap(road):
    """The greatest gap of a road."""
    return max([int(gap) for _, gap in gaps_told(road)])


def gap_kind(road):
    """The word of the first gap that is as great as any."""
    greatest = greatest_gap(road)
    words = [word for word, gap in gaps_told(road) if gap == greatest]
    return words[0]


def is_kept(road):
    """Whether no box of a road forgets while it is needed."""
    greatest = greatest_gap(road)
    return all([greatest <= slack_of(box) for box in road.way.boxes])
