"""The times of lines without a bar, and what is lost by not knowing the width."""

from wholeline.bars import first_bar
from wholeline.errors import Barred
from wholeline.lines import least_load, load_of, race_of, turn_on
from wholeline.races import check_way
from wholeline.regret import regret
from wholeline.states import start
from wholeline.waytimes import taken_earliest, taken_latest
from wholeline.widths import Game


def check_unbarred(line):
    """Raise Barred if a line has a bar."""
    bar = first_bar(line)
    if bar is not None:
        raise Barred(bar[0])


def times_on(line, way):
    """The tuple (way, least, greatest) of a way that can win."""
    turn = turn_on(line, way)
    load = least_load(line)
    last = len(load) - 1
    race = race_of(line)
    least = race.ways[way].window()[0] + taken_earliest(turn, load, last)
    return (way, least, race.last_win(way) + taken_latest(turn, load, line.losses, last))


def way_times(line):
    """The list of the tuples (way, least, greatest) of the ways that can win."""
    check_unbarred(line)
    return [times_on(line, way) for way in race_of(line).winners()]


def least_time(line):
    """The least time of a line."""
    return min([int(least) for _, least, _ in way_times(line)])


def greatest_time(line):
    """The greatest time of a line."""
    return max([int(greatest) for _, _, greatest in way_times(line)])


def game_told(line, way):
    """The Game of a way of a line without a bar."""
    counts = [len(load_of(line, width)) for width in line.widths]
    told = line.ways[way]
    return Game(line.widths, counts, least=told.least, most=told.most, turn=line.turn, losses=line.losses)


def game_on(line, way):
    """The Game of a way."""
    check_unbarred(line)
    check_way(line, way)
    return game_told(line, way)


def regrets(line):
    """The list of the pairs (way, regret) of the ways that can win."""
    check_unbarred(line)
    games = [(way, game_told(line, way)) for way in race_of(line).winners()]
    return [(way, regret(game, start(game))) for way, game in games]
