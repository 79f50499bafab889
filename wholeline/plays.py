"""How a course of a turn is played, moment by moment, however long it is."""


class Played:
    """What a course shows."""

    def __init__(self, sent, taken, closed, lost, short, idle, fault):
        self.sent = tuple(sent)
        self.taken = tuple(taken)
        self.closed = tuple(closed)
        self.lost = lost
        self.short = short
        self.idle = idle
        self.fault = fault

    def __eq__(self, other):
        if not isinstance(other, Played) or self.sent != other.sent or self.taken != other.taken:
            return False
        if self.closed != other.closed or self.lost != other.lost or self.short != other.short:
            return False
        return self.idle == other.idle and self.fault == other.fault


class Player:
    """The sender, the reader and what is on its way between them."""

    def __init__(self, turn, load, course, spare=None):
        self.turn = turn
        self.load = load
        self.course = list(course)
        # The fate of each sending for which the course has none, if there is one.
        self.spare = spare
        self.sent = []
        self.taken = []
        self.closed = []
        # Both tables tell which sendings come, or are answered, at a moment.
        self.to_reader = {}
        self.to_sender = {}
        self.parcel = 0
        self.is_waited_for = False
        self.sends_at = 0
        self.is_short = False

    def run(self):
        """Play until nothing is left to be looked at."""
        moment = 0
        while moment is not None:
            self.read(moment)
            self.hear(moment)
            if self.sends_at == moment:
                self.send(moment)
            moment = self.next_moment()

    def number_of(self, parcel):
        """The number that a parcel goes with."""
        return int(parcel) % self.turn.numbers

    def read(self, moment):
        """The reader looks at all that comes to it, and answers."""
        sendings = self.to_reader.pop(moment, [])
        for sending in sendings:
            parcel = self.sent[sending][1]
            if self.number_of(parcel) == self.number_of(len(self.taken)):
                self.taken.append((moment, sending))
            fate = self.course[sending]
            if fate[0] == "answered":
                self.to_sender.setdefault(moment + fate[2], []).append(sending)

    def hear(self, moment):
        """The sender looks at all answers that come to it."""
        sendings = self.to_sender.pop(moment, [])
        for sending in sendings:
            number = self.number_of(self.sent[sending][1])
            if self.is_waited_for and number == self.number_of(self.parcel):
                self.close(moment, sending)

    def close(self, moment, sending):
        """The sender takes an answer to its open parcel."""
        self.closed.append((moment, self.parcel, sending))
        self.is_waited_for = False
        quiet = self.load.quiet * self.load.borders(self.parcel, self.parcel + 1)
        self.parcel += 1
        self.sends_at = moment + quiet if self.parcel < len(self.load) else None

    def send(self, moment):
        """The sender sends a parcel, new or again, unless no fate is left for it."""
        sending = len(self.sent)
        if sending == len(self.course):
            if self.spare is None:
                self.is_short = True
                return
            self.course.append(self.spare)
        self.sent.append((moment, self.parcel))
        self.is_waited_for = True
        self.sends_at = moment + self.turn.turn
        fate = self.course[sending]
        if fate[0] != "lost":
            self.to_reader.setdefault(moment + fate[1], []).append(sending)

    def next_moment(self):
        """The next moment at which something happens, None if the play is over."""
        if self.is_short:
            return None
        moments = list(self.to_reader) + list(self.to_sender)
        if self.sends_at is not None:
            moments.append(self.sends_at)
        return min([int(moment) for moment in moments], default=None)

    def takes_wrong(self):
        """Whether the reader took a sending of another parcel than the next one."""
        parcels = [self.sent[sending][1] for _, sending in self.taken]
        return parcels != list(range(len(parcels)))

    def closes_untaken(self):
        """Whether a parcel is closed that was not taken, and cannot be any more."""
        there = {self.sent[sending][1]: True for _, sending in self.taken}
        for sendings in self.to_reader.values():
            for sending in sendings:
                there[self.sent[sending][1]] = True
        return any([closing[1] not in there for closing in self.closed])

    def played(self):
        """What the course shows."""
        lost = losses_of(self.course[:len(self.sent)])
        idle = len(self.course) - len(self.sent)
        fault = idle == 0 and (self.takes_wrong() or self.closes_untaken())
        return Played(self.sent, self.taken, self.closed, lost, self.is_short, idle, fault)


def losses_of(fates):
    """How many of some fates are losses."""
    return len([fate for fate in fates if fate[0] != "answered"])


def shown_by(turn, load, course):
    """What a course shows that is known to be one."""
    player = Player(turn, load, course)
    player.run()
    return player.played()


def finished(turn, load, begun):
    """The list of the fates of the first whole course that begins like this."""
    player = Player(turn, load, begun, ("answered", turn.least, turn.least))
    player.run()
    return player.course
