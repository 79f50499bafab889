"""Sessions, which lead one line by hand."""

from wholeline.errors import BadDeed, BadIndex, NothingToUndo, Started
from wholeline.kinds import is_index
from wholeline.leads import come_now, comers, first_lead, lost_now, waited
from wholeline.letters import Mail
from wholeline.lines import check_line
from wholeline.senders import check_sender

# How many parts the deeds have, and the words of those of a laid session.
PARTS = {
    "change": 2, "letter": 3, "drop": 3, "row": 1, "cut": 1, "start": 4, "wait": 2, "come": 2, "lose": 2, "stop": 1,
}
LAID = ("change", "letter", "drop", "row", "cut", "start")
EMPTY_LETTER = ((), 0)


def check_deed(value):
    """Raise BadDeed if any value is no tuple with a word of a deed and as many parts."""
    if not isinstance(value, tuple) or len(value) == 0 or not isinstance(value[0], str):
        raise BadDeed(None)
    if len(value) != PARTS.get(value[0], 0):
        raise BadDeed(None)


def mail_without(mail, row, index):
    """The Mail with a letter less."""
    rows = mail.rows_told()
    if not is_index(row, len(rows)):
        raise BadIndex(row)
    if not is_index(index, len(rows[row])):
        raise BadIndex(index)
    del rows[row][index]
    return Mail(rows)


def line_behind(line, deed):
    """The line behind a deed that changes its settings or letters."""
    word = deed[0]
    if word == "change":
        return line.changed(deed[1])
    if word == "letter":
        mail = line.mail.with_letter(deed[1], deed[2])
    elif word == "row":
        mail = line.mail.with_row([EMPTY_LETTER])
    elif word == "drop":
        mail = mail_without(line.mail, deed[1], deed[2])
    else:
        mail = Mail(line.mail.rows_told()[:-1])
    return line.with_setting("mail", mail)


def started(line, way, width, moment):
    """The lead of a session at its start."""
    check_sender(line, way, width, moment)
    return first_lead(line, way, width, moment)


def lead_behind(lead, deed):
    """The lead of a running session behind a deed, None behind a stop."""
    word = deed[0]
    if word == "wait":
        return waited(lead, deed[1])
    if word == "come":
        return come_now(lead, deed[1])
    return lost_now(lead, deed[1]) if word == "lose" else None


class Session:
    """A session; it changes."""

    def __init__(self, line):
        check_line(line)
        self.line = line
        # The lead is None while the session is laid.
        self.lead = None
        # The deeds that were done, each with the line and the lead ahead of it.
        self.done = []

    def do(self, deed):
        """Do a deed."""
        check_deed(deed)
        line = self.line
        lead = None
        if deed[0] not in LAID:
            lead = lead_behind(self.lead_now(), deed)
        elif self.lead is not None:
            raise Started(self.clock())
        elif deed[0] == "start":
            lead = started(line, deed[1], deed[2], deed[3])
        else:
            line = line_behind(line, deed)
        self.done.append((deed, self.line, self.lead))
        self.line = line
        self.lead = lead

    def undo(self):
        """Take the last step back."""
        if not self.done:
            raise NothingToUndo("step")
        _, self.line, self.lead = self.done.pop()

    def steps_done(self):
        """The list of the deeds that were done and not taken back."""
        return [deed for deed, _, _ in self.done]

    def line_now(self):
        """The Line as it is now."""
        return self.line

    def is_running(self):
        """Whether the session runs."""
        return self.lead is not None

    def lead_now(self):
        """The lead of the session while it runs."""
        if self.lead is None:
            raise Started(None)
        return self.lead

    def clock(self):
        """The moment at which the clock stands."""
        return self.lead_now()["clock"]

    def in_air(self):
        """The list of the tuples (number, end to which it goes, sent, message) of the things in the air."""
        return [(number, *thing) for number, thing in self.lead_now()["air"].items()]

    def may_come(self):
        """The list of the numbers of the things that may come now."""
        return comers(self.lead_now())

    def letters_read(self):
        """The list of the pairs (moment, letter) of the letters that were read."""
        return list(self.lead_now()["reading"]["letters"])

    def __len__(self):
        return len(self.done)


class Mark:
    """Where a session was when a Trial was entered."""

    def __init__(self, session, ahead):
        self.line = session.line
        self.lead = session.lead
        self.done = list(session.done)
        self.ahead = ahead


class Trial:
    """A session in a with statement, which is put back behind it."""

    def __init__(self, session):
        self.session = session
        # The last entry that is not left; it knows the one ahead of it, as a Trial may stand within itself.
        self.mark = None

    def __enter__(self):
        self.mark = Mark(self.session, self.mark)
        return self.session

    def __exit__(self, kind, value, trace):
        self.session.line = self.mark.line
        self.session.lead = self.mark.lead
        self.session.done = self.mark.done
        self.mark = self.mark.ahead
