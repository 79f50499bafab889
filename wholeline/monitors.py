"""Monitors, which tell from a run alone what it shows."""

from wholeline.errors import BadBox, WholeError
from wholeline.kinds import is_index, is_integer
from wholeline.lines import load_of
from wholeline.netplays import box_delays, delay_of
from wholeline.nets import run_line


def events_of(run, word):
    """The list of the events of a run with this word."""
    return [event for event in run.events if event[1] == word]


def lost_goings(run):
    """A dict with True for each going that is lost."""
    return {going: True for _, _, going, _ in events_of(run, "lost")}


def parcels_sent(run):
    """A dict with the index of the parcel of each going that is one, in their order."""
    parcels = {}
    closed = 0
    for _, word, going, message in run.events:
        if word == "closed":
            closed += 1
        elif word == "sent" and message[0] == "parcel":
            # The open parcel is the first one that is not closed.
            parcels[going] = closed
    return parcels


def takings(run):
    """The tuple of the indexes of the parcels that are taken."""
    parcels = parcels_sent(run)
    return tuple([parcels[going] for _, _, going, _ in events_of(run, "taken")])


def flaw(run):
    """The flaw of a run, None if it is clean."""
    taken = takings(run)
    for place, parcel in enumerate(taken):
        if parcel != place:
            return ("twice" if parcel < place else "other", place)
    load = load_of(run.line, run.going)
    return None if load is not None and len(taken) == len(load) else ("missing", len(taken))


def is_clean(run):
    """Whether the reader takes one sending of each parcel, in order, and nothing else."""
    return flaw(run) is None


def told_times(run):
    """The tuple of the moments of the tellings."""
    return tuple([event[0] for event in events_of(run, "told")])


def most_held(run):
    """The most units that are held behind a taking, the last piece of a letter included."""
    most = 0
    held = 0
    for _, word, _, message in run.events:
        if word == "taken":
            held += len(message[3])
            most = held if held > most else most
        elif word == "told":
            held = 0
    return most


def seen_by(run, box):
    """The sorted tuple of the moments at which what is not lost comes to a box of the winning way."""
    way = None if run.winner is None else run.line.ways[run.winner]
    if way is None or not is_index(box, len(way.boxes)):
        raise BadBox(box)
    lost = lost_goings(run)
    there = run.fate.race[run.winner][0]
    moments = [way.begin + box_delays(way, run.fate, 0, there)[box]]
    for index, (moment, _, going, _) in enumerate(events_of(run, "sent"), start=1):
        if going not in lost:
            delay = delay_of(way, run.fate, going)
            moments.append(moment + box_delays(way, run.fate, index, delay)[box])
    return tuple(sorted([int(moment) for moment in moments]))


def widest_gap(run, box):
    """The greatest difference of neighbouring moments at a box, 0 if there are none."""
    seen = seen_by(run, box)
    return max([int(later - sooner) for sooner, later in zip(seen, seen[1:])], default=0)


def answers_heard(run):
    """A dict with the going of the answer for each going whose answer is neither lost nor bent."""
    unheard = {**lost_goings(run), **{going: True for going, _ in run.fate.bends}}
    answers = {}
    came = None
    for _, word, going, _ in run.events:
        if word == "came":
            came = going
        elif word == "answered" and going not in unheard:
            # The answer stands behind what it answers, with nothing else between.
            answers[came] = going
    return answers


def course_of(run):
    """The course of all parcels sent."""
    came = {going: message for _, _, going, message in events_of(run, "came")}
    answers = answers_heard(run)
    course = []
    for going in parcels_sent(run):
        if came.get(going) is None:
            course.append(("lost",))
        else:
            course.append(fate_told(run, going, answers.get(going)))
    return tuple(course)


def fate_told(run, going, answer):
    """The fate of a parcel that comes, by the going of its answer, None if that does not come."""
    way = run.line.ways[run.winner]
    delay = delay_of(way, run.fate, going)
    return ("come", delay) if answer is None else ("answered", delay, delay_of(way, run.fate, answer))


def are_alike(told, value):
    """Whether any value is just what is told, of the same kinds throughout."""
    if isinstance(told, tuple):
        if not isinstance(value, tuple) or len(value) != len(told):
            return False
        return all([are_alike(part, other) for part, other in zip(told, value)])
    if told is None:
        return value is None
    if isinstance(told, str):
        return isinstance(value, str) and value == told
    if isinstance(told, bool):
        return isinstance(value, bool) and value == told
    return is_integer(value) and value == told


def is_run(line, fate, going, events):
    """Whether any values are a line, a fate, a width and just the events of this run."""
    try:
        run = run_line(line, fate, going=going)
    except WholeError:
        return False
    return are_alike(run.events, events)
