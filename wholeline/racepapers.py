"""Papers of races."""

from wholeline.kinds import is_index, is_integer, is_lot
from wholeline.races import outcome_of, win_run, wrong_of


def in_window(race, way, at):
    """Whether a way is planned and a moment is in its window."""
    window = race.ways[way].window()
    return window is not None and window[0] <= at <= window[1]


def win_paper(race, way, at):
    """A paper that a way can win at a moment, or that it cannot."""
    if race.can_win(way, at):
        return ("win", win_run(race, way, at))
    if not in_window(race, way, at):
        return ("never", ())
    return ("never", race.hurried(way, at)[:race.silent + 1])


def ways_by_end(race):
    """The planned ways by the ends of their windows, of those alike the least first."""
    ends = [(way, race.ways[way].window()[1]) for way in race.planned()]
    order = sorted(set([end for _, end in ends]))
    return [way for end in order for way, told in ends if told == end]


def latest_paper(race):
    """A pair (run, lot) for the latest end, None if there is none."""
    latest = race.latest()
    if latest is None:
        return None
    first = ways_by_end(race)[:race.silent + 1]
    # All ways ahead of the last one of these are hurried by it, and no others.
    return win_run(race, first[-1], latest), tuple(sorted([int(way) for way in first]))


def ends_at(race, at, run):
    """The Outcome if any value is a run with an outcome at this moment, else None."""
    if not is_integer(at) or wrong_of(race, run):
        return None
    outcome = outcome_of(race, run)
    return outcome if outcome.moment == at else None


def shows_win(race, way, at, run):
    """Whether any values show that a way can win at a moment."""
    if not is_index(way, len(race.ways)):
        return False
    outcome = ends_at(race, at, run)
    return outcome is not None and outcome.winner == way


def shows_never(race, way, at, lot):
    """Whether any values show that a way cannot win at a moment."""
    if not is_index(way, len(race.ways)) or not is_integer(at) or not is_lot(lot, len(race.ways)):
        return False
    if not in_window(race, way, at):
        return len(lot) == 0
    hurried = race.hurried(way, at)
    return len(lot) == race.silent + 1 and all([other in hurried for other in lot])


def shows_latest(race, at, run, lot):
    """Whether any values show that a moment is the latest end."""
    if ends_at(race, at, run) is None or not is_lot(lot, len(race.ways)):
        return False
    planned = race.planned()
    if len(lot) != race.silent + 1 or not all([way in planned for way in lot]):
        return False
    return all([race.ways[way].window()[1] <= at for way in lot])


def shows_unanswered(race, run):
    """Whether any value is a run without an answer."""
    return not wrong_of(race, run) and outcome_of(race, run).winner is None
