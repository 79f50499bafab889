"""Logs of roads, and papers that a box can forget."""

from wholeline.boxes import lull_of, slack_of
from wholeline.gaps import gap_kind, greatest_gap, signs_each, stops_of
from wholeline.kinds import greater, is_between, is_index, is_integer, is_told_by


# What is sent next is told by a tuple (kind, moment, row, index in the row, back of the row's last parcel).
def first_due(road):
    """What is sent first on a road."""
    return ("begin", road.way.begin, 0, -1, None)


def next_due(road, due, back):
    """What is sent behind a sending with this back, None if nothing is."""
    kind, moment, row, index, rest = due
    if kind == "sign":
        return due_in_quiet(road, row, moment, rest)
    if back is None:
        return (kind, moment + road.turn, row, index, rest)
    if index + 1 < road.rows[row]:
        return ("parcel", back, row, index + 1, None)
    return due_in_quiet(road, row, back, back) if row + 1 < len(road.rows) else None


def due_in_quiet(road, row, moment, rest):
    """What is sent next behind a row that ended at a moment, or behind a sign of then."""
    if moment + road.period < rest + road.quiet:
        return ("sign", moment + road.period, row, 0, rest)
    return ("parcel", rest + road.quiet, row + 1, 0, None)


def is_seen(box, moment, seen):
    """Whether any value is a moment at which what is sent then comes to a box, or None."""
    return seen is None or is_between(seen, moment + box[0], moment + box[1])


def is_back(road, moment, seen, back):
    """Whether any value is a moment at which an answer is taken to what was sent and seen then."""
    least = road.way.least
    if seen is None:
        return False
    return is_between(back, greater(moment + 2 * least, seen + least), moment + 2 * road.way.most)


def is_sending(road, box, due, value):
    """Whether any value is a sending of what is due."""
    if due is None or not is_told_by(value, due[0], 4):
        return False
    kind, moment, seen, back = value
    if not is_integer(moment) or moment != due[1] or not is_seen(box, moment, seen):
        return False
    if kind == "begin":
        return is_back(road, moment, seen, back) and back <= road.last
    return back is None or (kind == "parcel" and is_back(road, moment, seen, back))


def is_loss(sending):
    """Whether a sending or its answer is lost."""
    kind, _, seen, back = sending
    return seen is None or (kind == "parcel" and back is None)


def is_log(road, box, value):
    """Whether any value is a log of a road and one of its boxes."""
    if not isinstance(value, tuple) or len(value) == 0:
        return False
    due = first_due(road)
    for sending in value:
        if not is_sending(road, box, due, sending):
            return False
        due = next_due(road, due, sending[3])
    return len([sending for sending in value if is_loss(sending)]) <= road.losses


def shows_forgetting(road, value):
    """Whether any value is a forgetting paper of a road."""
    if not is_told_by(value, "forgets", 4):
        return False
    index, first, log = value[1:]
    if not is_index(index, len(road.way.boxes)):
        return False
    box = road.way.boxes[index]
    if not is_log(road, box, log) or not is_index(first, len(log) - 1):
        return False
    moments = [sending[2] for sending in log[first:]]
    if moments[0] is None or moments[-1] is None or not all([seen is None for seen in moments[1:-1]]):
        return False
    return moments[-1] - moments[0] > box[2]


def first_of_gap(road):
    """The place of the sending from which the greatest gap of a road goes, if nothing was lost ahead of it."""
    kind = gap_kind(road)
    if kind == "race":
        return 0
    if kind == "row":
        # Each row ahead has one parcel, with the signs behind it.
        rows = [row for row, many in enumerate(road.rows) if many > 1]
        return 1 + rows[0] * (1 + len(signs_each(road, road.period)))
    lull = lull_of(road)
    told = stops_of(lull, signs_each(lull, road.period))
    gaps = [later - sooner for sooner, later in zip(told, told[lull.losses + 1:])]
    return road.rows[0] + gaps.index(greatest_gap(road))


def back_told(road, kind, moment, is_first):
    """When an answer comes: as late as can be, but at once to a begin that does not matter."""
    if kind == "sign":
        return None
    if kind == "parcel":
        return moment + 2 * road.way.most
    return road.last if is_first else moment + 2 * road.way.least


def forgetting_log(road, box, first):
    """A log in which all is lost that can be behind one sending, and the next one is seen as late as can be."""
    last = first + road.losses + 1
    due = first_due(road)
    log = []
    while len(log) <= last:
        kind, moment = due[:2]
        seen = None
        back = None
        if not first < len(log) < last:
            seen = moment + (box[1] if len(log) == last else box[0])
            back = back_told(road, kind, moment, first == 0)
        log.append((kind, moment, seen, back))
        due = next_due(road, due, back)
    return tuple(log)


def forgetting_paper(road):
    """A paper for the first box that can forget, None if there is none."""
    greatest = greatest_gap(road)
    for index, box in enumerate(road.way.boxes):
        if slack_of(box) < greatest:
            first = first_of_gap(road)
            return ("forgets", index, first, forgetting_log(road, box, first))
    return None
