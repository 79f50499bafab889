"""How a run of a line goes on from the end of the race, moment by moment."""

from wholeline.errors import BadFate
from wholeline.forms import MOST_BYTE, form_of, width_of
from wholeline.kinds import is_between, is_index, lesser
from wholeline.readers import first_reading, read_by
from wholeline.senders import Script, first_stand, heard_by, sent_by
from wholeline.turns import MOST_SENDINGS


def item_or(values, index, least):
    """The item of a tuple at an index, or what stands for all behind its end."""
    return values[index] if index < len(values) else least


def delay_of(way, fate, going):
    """How long a going is on its way."""
    return item_or(fate.delays, going, way.least)


def box_delays(way, fate, index, delay):
    """The list of how late what the sender sends comes to each box: this sending, with this delay."""
    delays = []
    for place, box in enumerate(way.boxes):
        offsets = item_or(fate.offsets, place, ())
        delays.append(lesser(item_or(offsets, index, box[0]), delay))
    return delays


class Keeper:
    """A box in one run: whether it has forgotten the way; it changes."""

    def __init__(self, first, keep):
        self.seen_at = first
        self.keep = keep
        self.has_forgotten = False

    def sees(self, moment):
        """Something comes to it."""
        if moment - self.seen_at > self.keep:
            self.has_forgotten = True
        self.seen_at = moment


def keepers_of(way, fate, there):
    """The list of the boxes of a way behind the beginning."""
    seen = box_delays(way, fate, 0, there)
    keeps = [item_or(fate.keeps, place, box[2]) for place, box in enumerate(way.boxes)]
    return [Keeper(way.begin + delay, keep) for delay, keep in zip(seen, keeps)]


def check_bend(message, changes):
    """Raise BadFate if a message cannot be bent so."""
    data = form_of(message)
    for place, byte in changes:
        if not is_index(place, len(data)) or not is_between(byte, 0, MOST_BYTE) or data[place] == byte:
            raise BadFate("bends")


class Net:
    """The live ends, the boxes, and what is on its way between them; it changes."""

    def __init__(self, line, fate, width, outcome):
        self.line = line
        self.fate = fate
        self.way = line.ways[outcome.winner]
        self.bends = {going: changes for going, changes in fate.bends}
        self.script = Script(line, width)
        self.stand = first_stand(line, outcome.moment)
        self.reading = first_reading(line)
        self.keepers = keepers_of(self.way, fate, fate.race[outcome.winner][0])
        self.events = []
        # The messages of all goings so far, by their numbers.
        self.messages = []
        self.sendings = 0
        # These tables tell what comes at a moment: pairs of a going and the place of a box, and goings.
        self.to_boxes = {}
        self.to_reader = {}
        self.to_sender = {}
        self.forgotten = {}

    def run(self):
        """Go on until nothing is left to happen, or the run is cut."""
        moment = self.stand["wakes"]
        while moment is not None:
            self.pass_boxes(moment)
            self.read(moment)
            self.hear(moment)
            if self.stand["wakes"] == moment:
                self.send(moment)
            moment = self.next_moment()

    def next_moment(self):
        """The next moment at which something happens, None if the run is over."""
        if self.sendings == MOST_SENDINGS:
            return None
        moments = [*self.to_boxes, *self.to_reader, *self.to_sender]
        if self.stand["wakes"] is not None:
            moments.append(self.stand["wakes"])
        return min([int(moment) for moment in moments], default=None)

    def pass_boxes(self, moment):
        """All that comes to the boxes; what comes to one that has forgotten the way is thrown away."""
        comings = self.to_boxes.pop(moment, [])
        for _, place in comings:
            self.keepers[place].sees(moment)
        thrown = [going for going, place in comings if self.keepers[place].has_forgotten]
        for going in sorted(set([int(told) for told in thrown])):
            if going not in self.forgotten:
                self.forgotten[going] = True
                self.events.append((moment, "forgotten", going, self.messages[going]))

    def read(self, moment):
        """The reader looks at all that comes to it, and answers."""
        goings = self.to_reader.pop(moment, [])
        for going in goings:
            message = self.messages[going]
            if going not in self.forgotten and width_of(message, self.line.head) > self.fate.width:
                self.events.append((moment, "wide", going, message))
            elif going not in self.forgotten:
                self.come_to_reader(moment, going, self.arrived(moment, going))

    def arrived(self, moment, going):
        """The message as which a going comes, None if it is bent."""
        message = None if going in self.bends else self.messages[going]
        self.events.append((moment, "came", going, message))
        return message

    def come_to_reader(self, moment, going, message):
        """The reader looks at one thing, and answers."""
        ahead = self.reading
        answers, self.reading = read_by(self.line, self.reading, moment, message)
        if self.reading["taken"] > ahead["taken"]:
            self.events.append((moment, "taken", going, message))
        index = len(ahead["letters"])
        if len(self.reading["letters"]) > index:
            self.events.append((moment, "told", index, self.reading["letters"][index][1]))
        for answer in answers:
            self.go_out(moment, "answered", answer, self.to_sender)

    def hear(self, moment):
        """The sender looks at all answers that come to it."""
        goings = self.to_sender.pop(moment, [])
        for going in goings:
            message = self.arrived(moment, going)
            if message is not None:
                stand = heard_by(self.script, self.stand, moment, message)
                if stand["parcel"] > self.stand["parcel"]:
                    self.events.append((moment, "closed", going, message))
                self.stand = stand

    def send(self, moment):
        """The sender sends what is due, and it goes on to the boxes."""
        message, self.stand = sent_by(self.script, self.stand)
        self.sendings += 1
        going = len(self.messages)
        self.go_out(moment, "sent", message, self.to_reader)
        if going not in self.fate.lost:
            delay = delay_of(self.way, self.fate, going)
            for place, late in enumerate(box_delays(self.way, self.fate, self.sendings, delay)):
                self.to_boxes.setdefault(moment + late, []).append((going, place))
            self.pass_boxes(moment)

    def go_out(self, moment, word, message, coming):
        """A message goes out, and comes by one of the tables unless it is lost."""
        going = len(self.messages)
        if going in self.bends:
            check_bend(message, self.bends[going])
        self.messages.append(message)
        self.events.append((moment, word, going, message))
        if going in self.fate.lost:
            self.events.append((moment, "lost", going, message))
        else:
            coming.setdefault(moment + delay_of(self.way, self.fate, going), []).append(going)
