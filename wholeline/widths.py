"""Games: what matters for probes on the way that won."""

from wholeline.errors import BadOrder, BadPart
from wholeline.kinds import is_between, is_list_of
from wholeline.turns import MOST_LOSSES, MOST_TURN
from wholeline.ways import MOST_DELAY

MOST_WIDTHS = 8
MOST_WIDTH = 100
MOST_COUNT = 5000


def check_widths(widths):
    """Raise what is wrong with the widths of a game."""
    if not is_list_of(widths, 1, MOST_WIDTHS):
        raise BadPart("widths")
    if not all([is_between(width, 1, MOST_WIDTH) for width in widths]):
        raise BadPart("widths")
    for index in range(1, len(widths)):
        if widths[index] <= widths[index - 1]:
            raise BadOrder(index)


def check_counts(counts, many):
    """Raise what is wrong with the counts of so many widths."""
    if not is_list_of(counts, many, many):
        raise BadPart("counts")
    if not all([is_between(count, 1, MOST_COUNT) for count in counts]):
        raise BadPart("counts")
    for index in range(1, many):
        if counts[index] > counts[index - 1]:
            raise BadOrder(index)


class Game:
    """The widths, how many parcels the letters take with each, and the times on the way."""

    def __init__(self, widths, counts, *, least, most, turn, losses):
        check_widths(widths)
        check_counts(counts, len(widths))
        if not is_between(least, 1, MOST_DELAY):
            raise BadPart("least")
        if not is_between(most, least, MOST_DELAY):
            raise BadPart("most")
        if not is_between(turn, 1, MOST_TURN):
            raise BadPart("turn")
        if not is_between(losses, 0, MOST_LOSSES):
            raise BadPart("losses")
        self.widths = tuple(widths)
        self.counts = tuple(counts)
        self.least = least
        self.most = most
        self.turn = turn
        self.losses = losses

    def __len__(self):
        return len(self.widths)

    def __eq__(self, other):
        if not isinstance(other, Game) or self.widths != other.widths or self.counts != other.counts:
            return False
        if self.least != other.least or self.most != other.most:
            return False
        return self.turn == other.turn and self.losses == other.losses


def check_game(game):
    """Raise BadPart if any value is no Game."""
    if not isinstance(game, Game):
        raise BadPart("game")


def greatest_going(game, count, losses):
    """How long going takes at most with so many parcels, so many losses being left."""
    return (2 * count - 1) * game.most + losses * game.turn


def bases_of(game):
    """The bases of a game that is known to be one."""
    return tuple([greatest_going(game, count, game.losses) for count in game.counts])


def bases(game):
    """The tuple of the bases: the greatest time if a width were known, for each."""
    check_game(game)
    return bases_of(game)
