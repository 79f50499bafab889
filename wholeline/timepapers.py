"""Papers of the times of lines."""

from wholeline.errors import BadPaper
from wholeline.kinds import is_tuple_of
from wholeline.lines import least_load, race_of, turn_on
from wholeline.linetimes import check_unbarred, way_times
from wholeline.plays import shown_by
from wholeline.racepapers import shows_win
from wholeline.races import win_run
from wholeline.turnpapers import may_be
from wholeline.turns import is_right
from wholeline.waytimes import earliest_course, latest_course


def line_time_paper(line, word):
    """A paper that shows the least or the greatest time of a line."""
    if not isinstance(word, str) or word not in ("least", "greatest"):
        raise BadPaper(word)
    way = way_for(line, word)
    race = race_of(line)
    turn = turn_on(line, way)
    load = least_load(line)
    if word == "least":
        at = race.ways[way].window()[0]
        return (way, at, win_run(race, way, at), earliest_course(turn, load))
    at = race.last_win(way)
    return (way, at, win_run(race, way, at), latest_course(turn, load, line.losses))


def way_for(line, word):
    """A way with the least or the greatest time; of several, one on which as little is sent as can be."""
    if word == "least":
        times = [(way, least) for way, least, _ in way_times(line)]
        told = min([int(time) for _, time in times])
    else:
        times = [(way, greatest) for way, _, greatest in way_times(line)]
        told = max([int(time) for _, time in times])
    ways = [way for way, time in times if time == told]
    # The sooner answers come, the fewer parcels are sent again.
    delays = [line.ways[way].least if word == "least" else line.ways[way].most for way in ways]
    return ways[delays.index(min([int(delay) for delay in delays]))]


def shown_time(line, value):
    """The time that any value shows, None if it shows none."""
    check_unbarred(line)
    if not is_tuple_of(value, 4):
        return None
    way, at, run, course = value
    if not shows_win(race_of(line), way, at, run):
        return None
    turn = turn_on(line, way)
    load = least_load(line)
    if not may_be(turn, line.losses, course):
        return None
    shown = shown_by(turn, load, course)
    return at + shown.taken[-1][0] if is_right(load, shown) else None
