"""Fates by which a course of a turn, or a log of a road, comes about in a run of a line."""

from wholeline.nets import Fate, run_line


def filled(way, delays):
    """The tuple of delays that a dict tells, the least one where it tells none."""
    return tuple(delays.get(going, way.least) for going in range(max(delays, default=-1) + 1))


def answer_behind(events, going):
    """The going of the answer to one, None if there is none."""
    at = [index for index, event in enumerate(events) if event[1] == "came" and event[2] == going]
    for event in events[at[0] + 1:] if at else []:
        if event[1] == "answered":
            return event[2]
        if event[1] not in ("taken", "told"):
            return None
    return None


def wishes_of_fate(way, fate):
    """How late a parcel and its answer come by a fate of a course, None for what is lost."""
    if fate[0] == "lost":
        return None, None
    return fate[1], fate[2] if fate[0] == "answered" else None


def wishes_of_sending(way, sending):
    """How late a sending of a log and its answer come, None for what is lost."""
    _, moment, seen, back = sending
    if seen is None:
        return None, None
    if back is None:
        return max(way.least, seen - moment), None
    there = max(way.least, seen - moment, back - moment - way.most)
    return there, back - moment - there


def fate_by_wishes(line, way, race, wishes, kinds, **settings):
    """The fate by which the things of these kinds that the sender sends come, and are answered, as is wished."""
    delays, lost = {}, []
    while True:
        fate = Fate(line.widths[0], race, delays=filled(way, delays), lost=tuple(sorted(lost)), **settings)
        events = run_line(line, fate).events
        sent = [event[2] for event in events if event[1] == "sent" and event[3][0] in kinds]
        for going, (there, back) in zip(sent, wishes):
            answer = answer_behind(events, going)
            for number, delay in ((going, there), (answer, back)):
                if number is not None and delay is None and number not in lost:
                    lost.append(number)
                    break
                if number is not None and delay is not None and delays.get(number, way.least) != delay:
                    delays[number] = delay
                    break
            else:
                continue
            break
        else:
            return fate


def fate_of_course(line, index, race, course):
    """The fate of a course on a way that wins by a run of the race."""
    way = line.ways[index]
    return fate_by_wishes(line, way, race, [wishes_of_fate(way, fate) for fate in course], ("parcel",))


def fate_of_log(line, index, race, box, log):
    """The fate of a log of a road and one of its boxes, which keeps the way as short as it can."""
    way = line.ways[index]
    offsets = tuple(way.boxes[box][0] if seen is None else seen - moment for _, moment, seen, _ in log)
    keeps = tuple(told[2] if place == box else told[3] for place, told in enumerate(way.boxes))
    return fate_by_wishes(
        line, way, race, [wishes_of_sending(way, sending) for sending in log[1:]], ("parcel", "sign"),
        offsets=((),) * box + (offsets,), keeps=keeps)
