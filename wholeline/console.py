"""A console, which takes commands and tells answers line by line."""

from wholeline.errors import BadCommand, NothingToUndo, TooMany, WholeError
from wholeline.sessions import Session, Trial
from wholeline.texts import deed_in, joined, letter_line, write_line


def deed_told(text):
    """The deed that a command tells."""
    deed = deed_in(text)
    if deed is None:
        raise BadCommand(text)
    return deed


def shown(session):
    """The answer that tells how a session stands."""
    if not session.is_running():
        return ["laid"]
    things = [joined([number, end, sent, message[0]]) for number, end, sent, message in session.in_air()]
    return [joined(["at", session.clock()]), *things]


def letters_shown(session):
    """The answer that tells the letters that were read."""
    letters = [letter_line(moment, letter) for moment, letter in session.letters_read()]
    return letters if letters else ["none"]


def comers_shown(session):
    """The answer that tells which things may come now."""
    numbers = session.may_come()
    return [joined(numbers) if numbers else "none"]


def tried(session, deed):
    """The answer that tells how a session would stand behind a deed."""
    with Trial(session) as trial:
        trial.do(deed)
        return shown(trial)


def answer_to(session, text):
    """The answer to a command, which is done."""
    if not isinstance(text, str):
        raise BadCommand(text)
    if text == "line":
        return write_line(session.line_now()).split("\n")
    if text == "show":
        return shown(session)
    if text == "ready":
        return comers_shown(session)
    if text == "read":
        return letters_shown(session)
    if text.startswith("try "):
        return tried(session, deed_told(text[len("try "):]))
    if text == "undo":
        session.undo()
    else:
        session.do(deed_told(text))
    return ["ok"]


class Console:
    """A console that leads one line; it changes."""

    def __init__(self, line):
        self.session = Session(line)

    def enter(self, text):
        """The answer to a command, as a list of lines."""
        try:
            return answer_to(self.session, text)
        except (WholeError, TooMany, NothingToUndo) as error:
            return ["error " + error.class_name()]
