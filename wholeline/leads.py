"""Leads: how a running session stands, and how it goes on."""

from wholeline.errors import BadIndex, BadMoment, BadOrder, BadPart, BadWait
from wholeline.kinds import is_between, is_integer
from wholeline.readers import first_reading, read_by
from wholeline.senders import Script, first_stand, heard_by, sent_by

MOST_MOMENT = 200000


# A lead is a dict that tells how a session stands; it is never changed, a new one is made for each step.
def first_lead(line, way, width, moment):
    """The lead of a session at its start, the arguments being known to fit."""
    return {
        "clock": moment, "line": line, "way": line.ways[way], "script": Script(line, width),
        "stand": first_stand(line, moment), "reading": first_reading(line),
        # The things in the air by their numbers, as tuples (end to which one goes, sent, message).
        "air": {}, "things": 0, "lost": 0,
        # The last thing that came to each end at this very moment.
        "read": None, "heard": None,
    }


def with_thing(lead, end, moment, message):
    """The lead with one thing more in the air."""
    number = lead["things"]
    return {**lead, "things": number + 1, "air": {**lead["air"], number: (end, moment, message)}}


def without_thing(lead, number):
    """The lead with one thing less in the air."""
    air = lead["air"]
    return {**lead, "air": {thing: air[thing] for thing in air if thing != number}}


def is_over(lead, sent, moment):
    """Whether the most delay of something that was sent then is over at a moment."""
    return sent + lead["way"].most < moment


def waited(lead, moment):
    """The lead when the clock has gone on to a moment."""
    if not is_between(moment, lead["clock"] + 1, MOST_MOMENT):
        raise BadMoment(moment)
    for number, (_, sent, _) in lead["air"].items():
        if is_over(lead, sent, moment):
            raise BadWait(number)
    while lead["stand"]["wakes"] is not None and lead["stand"]["wakes"] < moment:
        sent = lead["stand"]["wakes"]
        if is_over(lead, sent, moment):
            raise BadWait(lead["things"])
        message, stand = sent_by(lead["script"], lead["stand"])
        lead = with_thing({**lead, "stand": stand}, "reader", sent, message)
    return {**lead, "clock": moment, "read": None, "heard": None}


def check_air(lead, number):
    """Raise BadIndex if any value is no number of a thing in the air."""
    if not is_integer(number) or number not in lead["air"]:
        raise BadIndex(number)


def is_early(lead, number):
    """Whether the least delay of a thing in the air is not over."""
    return lead["clock"] < lead["air"][number][1] + lead["way"].least


def is_in_order(lead, number):
    """Whether a thing in the air may come at this moment behind all that has come at it."""
    if lead["air"][number][0] == "sender":
        return lead["heard"] is None or lead["heard"] < number
    return lead["heard"] is None and (lead["read"] is None or lead["read"] < number)


def come_now(lead, number):
    """The lead when a thing has come."""
    check_air(lead, number)
    if is_early(lead, number):
        raise BadWait(number)
    if not is_in_order(lead, number):
        raise BadOrder(number)
    end, _, message = lead["air"][number]
    lead = without_thing(lead, number)
    clock = lead["clock"]
    if end == "sender":
        stand = heard_by(lead["script"], lead["stand"], clock, message)
        return {**lead, "stand": stand, "heard": number}
    answers, reading = read_by(lead["line"], lead["reading"], clock, message)
    lead = {**lead, "reading": reading, "read": number}
    for answer in answers:
        lead = with_thing(lead, "sender", clock, answer)
    return lead


def lost_now(lead, number):
    """The lead when a thing is lost."""
    check_air(lead, number)
    if lead["lost"] == lead["line"].losses:
        raise BadPart("losses")
    return {**without_thing(lead, number), "lost": lead["lost"] + 1}


def comers(lead):
    """The ascending list of the numbers of the things that may come now."""
    return [number for number in lead["air"] if not is_early(lead, number) and is_in_order(lead, number)]
