"""Runs of lines led moment by moment with live ends that exchange bytes, which tests of Parts 7 to 9 share."""

from tests.help import dice
from tests.plainlines import RaceOf
from tests.plainraces import plain_outcome, plain_runs
from wholeline.forms import bent, read_form, write_form
from wholeline.nets import Fate, run_line
from wholeline.readers import Reader
from wholeline.senders import Sender


def item(values, index, rest):
    return values[index] if index < len(values) else rest


class PlainNet:
    """A run by the words of [47], one moment after the other."""

    def __init__(self, line, fate, going=None, most_sendings=5000):
        self.line, self.fate, self.most_sendings = line, fate, most_sendings
        self.winner, self.start, _ = plain_outcome(RaceOf(line), fate.race)
        self.events, self.is_cut = [], False
        # The goings as lists [sent, message, data, to the reader, index among what the sender sends, comes].
        self.goings = []
        self.gone, self.sendings = {}, 0
        if self.winner is not None:
            self.way = line.ways[self.winner]
            self.sender = Sender(line, self.winner, going or line.widths[0], self.start)
            self.reader = Reader(line)
            self.lead()

    def delay(self, number):
        return item(self.fate.delays, number, self.way.least)

    def at_box(self, index, sent, delay, box):
        """When what the sender sends comes to a box."""
        offsets = item(self.fate.offsets, box, ())
        return sent + min(item(offsets, index, self.way.boxes[box][0]), delay)

    def forgets_at(self, number):
        """The first moment at which a thing comes to a box that has forgotten, None if there is none."""
        moments = []
        sent, _, _, _, index, _ = self.goings[number]
        for box, told in enumerate(self.way.boxes):
            keep = item(self.fate.keeps, box, told[2])
            seen = [self.at_box(0, self.way.begin, self.fate.race[self.winner][0], box)]
            for other, (at, _, _, to_reader, place, comes) in enumerate(self.goings):
                if to_reader and comes:
                    seen.append(self.at_box(place, at, self.delay(other), box))
            here = self.at_box(index, sent, self.delay(number), box)
            seen = sorted(moment for moment in seen if moment <= here)
            if any(later - sooner > keep for sooner, later in zip(seen, seen[1:])):
                moments.append(here)
        return min(moments, default=None)

    def go_out(self, moment, word, message):
        number = len(self.goings)
        data = write_form(message)
        for going, changes in self.fate.bends:
            if going == number:
                data = bent(data, changes)
        to_reader = word == "sent"
        self.sendings += to_reader
        comes = number not in self.fate.lost
        self.goings.append([moment, message, data, to_reader, self.sendings, comes])
        self.events.append((moment, word, number, message))
        if not comes:
            self.events.append((moment, "lost", number, message))
        return number

    def lead(self):
        moment = self.start
        while not self.is_cut:
            self.forget(moment, range(len(self.goings)))
            for number in range(len(self.goings)):
                if self.goings[number][3] and self.comes_at(number) == moment:
                    self.read(moment, number)
            for number in range(len(self.goings)):
                if not self.goings[number][3] and self.comes_at(number) == moment:
                    self.hear(moment, number)
            if self.sender.wake() == moment:
                message, = self.sender.due(moment)
                number = self.go_out(moment, "sent", message)
                self.forget(moment, [number])
                self.is_cut = self.sendings == self.most_sendings
            on_way = [number for number in range(len(self.goings)) if (self.comes_at(number) or 0) > moment]
            if self.sender.wake() is None and not on_way:
                return
            moment += 1

    def comes_at(self, number):
        sent, _, _, _, _, comes = self.goings[number]
        return sent + self.delay(number) if comes and number not in self.gone else None

    def forget(self, moment, numbers):
        for number in numbers:
            sent, message, _, to_reader, _, comes = self.goings[number]
            if to_reader and comes and number not in self.gone and moment <= sent + self.delay(number):
                if self.forgets_at(number) == moment:
                    self.gone[number] = True
                    self.events.append((moment, "forgotten", number, message))

    def read(self, moment, number):
        _, message, data, _, _, _ = self.goings[number]
        if message[0] == "parcel" and self.line.head + len(message[3]) > self.fate.width:
            self.events.append((moment, "wide", number, message))
            return
        is_bent = data != write_form(message)
        self.events.append((moment, "came", number, None if is_bent else message))
        waits, told = self.reader.waits(), len(self.reader.told_letters())
        held, thrown = self.reader.held_units(), self.reader.thrown()
        answers = self.reader.come(moment, data)
        if not is_bent and message[0] == "parcel" and self.reader.thrown() == thrown:
            assert waits == message[1] and len(held) + len(message[3]) <= self.line.room.size
            self.events.append((moment, "taken", number, message))
        for index, (_, letter) in enumerate(self.reader.told_letters()[told:], start=told):
            self.events.append((moment, "told", index, letter))
        for answer in answers:
            self.go_out(moment, "answered", answer)

    def hear(self, moment, number):
        _, message, data, _, _, _ = self.goings[number]
        if data != write_form(message):
            self.events.append((moment, "came", number, None))
            return
        self.events.append((moment, "came", number, message))
        ahead = self.sender.open_parcel()
        self.sender.come(moment, read_form(data))
        if ahead is not None and self.sender.open_parcel() is None:
            self.events.append((moment, "closed", number, message))


def random_fate(roll, line, width=None, lossy=0.5, least=False):
    """A fate of a line in which some way may win."""
    run = roll.choice(list(plain_runs(RaceOf(line))))
    winner, _, _ = plain_outcome(RaceOf(line), run)
    told = {}
    if winner is not None:
        way = line.ways[winner]
        many = roll.randrange(1, 20)
        told["delays"] = tuple(roll.randrange(way.least, way.most + 1) for _ in range(many))
        wrong = sorted(roll.sample(range(12), roll.randrange(line.losses + 1))) if roll.random() < lossy else []
        told["lost"] = tuple(number for number in wrong if roll.random() < 0.6)
        told["bends"] = tuple((number, bend(roll)) for number in wrong if number not in told["lost"])
        boxes = way.boxes[:roll.randrange(len(way.boxes) + 1)]
        told["offsets"] = tuple(tuple(roll.randrange(box[0], box[1] + 1) for _ in range(roll.randrange(9))) for box in boxes)
        told["keeps"] = tuple(roll.randrange(box[2], box[3] + 1) for box in boxes[:roll.randrange(3)])
    return Fate(line.widths[0] if width is None else width, run, **told)


def bend(roll):
    """Changes of one or two bytes at places that each message has; they may be the same bytes."""
    places = roll.sample(range(7), roll.randrange(1, 3))
    return tuple((place, roll.randrange(200, 256)) for place in places)


class TooManyRuns(Exception):
    """More runs than a search looks at."""


def all_runs(line, most=4000):
    """The runs of all fates of a line with its least width as the true one; none behind one that is cut."""
    for race in plain_runs(RaceOf(line)):
        winner, _, _ = plain_outcome(RaceOf(line), race)
        if winner is None:
            yield run_line(line, Fate(line.widths[0], race))
            continue
        boxes = line.ways[winner].boxes
        keeps = [()]
        for box in boxes:
            keeps = [told + (keep,) for told in keeps for keep in range(box[2], box[3] + 1)]
        for told in keeps:
            yield from runs_from(line, race, line.ways[winner], told, most)


def runs_from(line, race, way, keeps, most):
    """All runs with this race and these keeps, by the delays, losses and offsets of what really goes out."""
    # In no order of its own: a run that is not clean is found soon, if there are some.
    roll = dice(1)
    waiting = [((), (), ((),) * len(way.boxes))]
    while waiting:
        most -= 1
        if most < 0:
            raise TooManyRuns
        delays, lost, offsets = waiting.pop(roll.randrange(len(waiting)))
        run = run_line(line, Fate(line.widths[0], race, delays=delays, lost=lost, offsets=offsets, keeps=keeps))
        goings = sum(event[1] in ("sent", "answered") for event in run.events)
        if run.is_cut:
            yield run
            return
        sent = sum(event[1] == "sent" for event in run.events)
        if way.boxes and len(offsets[0]) < sent + 1:
            choices = [()]
            for box in way.boxes:
                choices = [told + (offset,) for told in choices for offset in range(box[0], box[1] + 1)]
            for choice in choices:
                further = tuple(told + (offset,) for told, offset in zip(offsets, choice))
                waiting.append((delays, lost, further))
        elif len(delays) < goings:
            for delay in range(way.least, way.most + 1):
                waiting.append((delays + (delay,), lost, offsets))
            if len(lost) < line.losses:
                waiting.append((delays + (way.least,), lost + (len(delays),), offsets))
        else:
            yield run
