"""All errors of the package."""


class WholeError(ValueError):
    """The base class of the errors that tell what is wrong."""

    def class_name(self):
        """The name of the error's class."""
        return self.__class__.__name__


class BadPart(WholeError):
    """An argument that does not fit, told by its name."""

    def __init__(self, part):
        self.part = part


class BadNumber(WholeError):
    """A number that is not as asked for."""

    def __init__(self, number):
        self.number = number


class BadIndex(WholeError):
    """What is no index."""

    def __init__(self, index):
        self.index = index


class BadRow(WholeError):
    """A row that is none, told by its index."""

    def __init__(self, index):
        self.index = index


class BadLetter(WholeError):
    """What is no letter, told by its spot."""

    def __init__(self, spot):
        self.spot = spot


class BadName(WholeError):
    """What is no name."""

    def __init__(self, name):
        self.name = name


class BadHead(WholeError):
    """A head that is no name, told by its index."""

    def __init__(self, index):
        self.index = index


class BadWord(WholeError):
    """What cannot be read as a word."""

    def __init__(self, word):
        self.word = word


class BadWords(WholeError):
    """A word in a list that cannot be read, told by its index."""

    def __init__(self, index):
        self.index = index


class BadIndexes(WholeError):
    """An entry of a list of indexes that does not fit, told by its place."""

    def __init__(self, index):
        self.index = index


class BadWriting(WholeError):
    """An entry of a writing that does not fit, told by its place."""

    def __init__(self, index):
        self.index = index


class BadSteps(WholeError):
    """A bound that does not fit, told by its index."""

    def __init__(self, index):
        self.index = index


class BadPiece(WholeError):
    """A piece that does not fit, told by its index."""

    def __init__(self, index):
        self.index = index


class BadBox(WholeError):
    """A box that is none, told by its index."""

    def __init__(self, index):
        self.index = index


class NoWay(WholeError):
    """What is no way."""

    def __init__(self, way):
        self.way = way


class BadRun(WholeError):
    """An entry of a run that does not fit, told by its index."""

    def __init__(self, index):
        self.index = index


class CannotWin(WholeError):
    """A way that cannot win then."""

    def __init__(self, way):
        self.way = way


class BadCourse(WholeError):
    """A fate that is none, told by its index."""

    def __init__(self, index):
        self.index = index


class BadWait(WholeError):
    """A wait that does not fit, told by its index."""

    def __init__(self, index):
        self.index = index


class Unsafe(WholeError):
    """A load that does not hold, told by its first fault."""

    def __init__(self, fault):
        self.fault = fault


class BadSign(WholeError):
    """A sign that does not fit, told by its index."""

    def __init__(self, index):
        self.index = index


class BadOrder(WholeError):
    """An entry out of order, told by its index."""

    def __init__(self, index):
        self.index = index


class BadState(WholeError):
    """What is no state."""

    def __init__(self, state):
        self.state = state


class BadProbe(WholeError):
    """What is no useful place."""

    def __init__(self, choice):
        self.choice = choice


class BadLog(WholeError):
    """An entry of a log that does not fit, told by its index."""

    def __init__(self, index):
        self.index = index


class BadPlan(WholeError):
    """A plan that does not tell what to do."""

    def __init__(self, reason):
        self.reason = reason


class BadTable(WholeError):
    """A table that is not good."""

    def __init__(self, reason):
        self.reason = reason


class BadAnswers(WholeError):
    """A run that does not fit a plan."""

    def __init__(self, reason):
        self.reason = reason


class BadChange(WholeError):
    """What is no change."""

    def __init__(self, change):
        self.change = change


class Barred(WholeError):
    """A line with a bar, told by the bar's word."""

    def __init__(self, word):
        self.word = word


class NoBar(WholeError):
    """A line without a bar."""

    def __init__(self, line):
        self.line = line


class BadPaper(WholeError):
    """A paper that there is not."""

    def __init__(self, reason):
        self.reason = reason


class BadMenu(WholeError):
    """An entry of a menu that does not fit, told by its index."""

    def __init__(self, index):
        self.index = index


class BadMessage(WholeError):
    """What is no message."""

    def __init__(self, value):
        self.value = value


class BadBytes(WholeError):
    """What is not the bytes of a message."""

    def __init__(self, value):
        self.value = value


class BadUnits(WholeError):
    """What is no tuple of units."""

    def __init__(self, value):
        self.value = value


class BadBend(WholeError):
    """A bend that does not fit, told by its index."""

    def __init__(self, index):
        self.index = index


class BadMoment(WholeError):
    """A moment that does not fit."""

    def __init__(self, moment):
        self.moment = moment


class Stuck(WholeError):
    """A letter that is stuck, told by its index."""

    def __init__(self, letter):
        self.letter = letter


class BadFate(WholeError):
    """A part of a fate that does not fit, told by its name."""

    def __init__(self, word):
        self.word = word


class BadText(WholeError):
    """A line of a text that does not fit, told by its index."""

    def __init__(self, index):
        self.index = index


class BadDeed(WholeError):
    """What is no deed."""

    def __init__(self, index):
        self.index = index


class Started(WholeError):
    """A deed for which the session runs, or does not run yet."""

    def __init__(self, moment):
        self.moment = moment


class BadCommand(WholeError):
    """What is no command."""

    def __init__(self, line):
        self.line = line


class TooMany(OverflowError):
    """More than the limit."""

    def __init__(self, limit):
        self.limit = limit

    def class_name(self):
        """The name of the error's class."""
        return self.__class__.__name__


class NothingToUndo(RuntimeError):
    """No step that could be taken back."""

    def __init__(self, name):
        self.name = name

    def class_name(self):
        """The name of the error's class."""
        return self.__class__.__name__
