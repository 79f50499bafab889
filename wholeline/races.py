"""Races of ways: which way wins, when, and what is silent then."""

from wholeline.errors import BadPart, BadRun, CannotWin, NoWay, TooMany
from wholeline.kinds import greater, is_between, is_index, is_integer, is_list_of, is_tuple_of
from wholeline.ways import Way

MOST_WAYS = 4
MOST_SILENT = 3
MOST_RUNS = 20000


def check_ways(ways):
    """Raise BadPart if any value is no list of one to four Ways."""
    if not is_list_of(ways, 1, MOST_WAYS) or not all([isinstance(way, Way) for way in ways]):
        raise BadPart("ways")


def check_silent(silent):
    """Raise BadPart if any value is no number of silent ways."""
    if not is_between(silent, 0, MOST_SILENT):
        raise BadPart("silent")


def check_way(race, way):
    """Raise NoWay if any value is no index of a way of the race."""
    if not is_index(way, len(race.ways)):
        raise NoWay(way)


class Race:
    """The race of some ways, of which at most some number are silent."""

    def __init__(self, ways, silent):
        check_ways(ways)
        check_silent(silent)
        self.ways = tuple(ways)
        self.silent = silent

    def planned(self):
        """The lot of the planned ways."""
        return tuple([way for way, told in enumerate(self.ways) if told.begin is not None])

    def hurried(self, way, at):
        """The lot of the ways that are hurried by a way and a moment."""
        check_way(self, way)
        ends = [(other, self.ways[other].window()[1]) for other in self.planned() if other != way]
        return tuple([other for other, end in ends if end < at or (end == at and other < way)])

    def can_win(self, way, at):
        """Whether a way can win at a moment."""
        check_way(self, way)
        window = self.ways[way].window()
        if window is None or not is_integer(at) or not window[0] <= at <= window[1]:
            return False
        return len(self.hurried(way, at)) <= self.silent

    def last_win(self, way):
        """The last moment at which a way can win, None if there is none."""
        check_way(self, way)
        window = self.ways[way].window()
        if window is None:
            return None
        moments = [at for at in range(window[0], window[1] + 1) if self.can_win(way, at)]
        return moments[-1] if moments else None

    def winners(self):
        """The lot of the ways that can win."""
        return tuple([way for way in range(len(self.ways)) if self.last_win(way) is not None])

    def latest(self):
        """The latest end, None if there is none."""
        ends = sorted([int(self.ways[way].window()[1]) for way in self.planned()])
        return ends[self.silent] if len(ends) > self.silent else None

    def __eq__(self, other):
        return isinstance(other, Race) and self.ways == other.ways and self.silent == other.silent


class Outcome:
    """Which way won a race, when, and which ways were sent."""

    def __init__(self, winner, moment, sent):
        self.winner = winner
        self.moment = moment
        self.sent = tuple(sent)

    def __eq__(self, other):
        if not isinstance(other, Outcome) or self.winner != other.winner:
            return False
        return self.moment == other.moment and self.sent == other.sent


def fits(way, entry):
    """Whether any value is an entry of a run for a way."""
    if entry is None:
        return True
    if way.begin is None or not is_tuple_of(entry, 2):
        return False
    return all([is_between(delay, way.least, way.most) for delay in entry])


def wrong_of(race, run):
    """A tuple of the index for which any value is no run, or of None; empty for a run."""
    if not isinstance(run, tuple):
        return (None,)
    for index in range(greater(len(run), len(race.ways))):
        if index >= len(run) or index >= len(race.ways) or not fits(race.ways[index], run[index]):
            return (index,)
    silent = [way for way in race.planned() if run[way] is None]
    return (None,) if len(silent) > race.silent else ()


def outcome_of(race, run):
    """The Outcome of a run that is known to be one."""
    winner = None
    moment = None
    for way in race.planned():
        if run[way] is not None:
            answer = race.ways[way].begin + sum(run[way])
            if moment is None or answer < moment:
                winner = way
                moment = answer
    # The first answer is that of a way begun ahead of it, so it does come.
    sent = [way for way in race.planned() if moment is None or race.ways[way].begin < moment]
    return Outcome(winner, moment, tuple(sent))


def played(race, run):
    """The Outcome of a run."""
    wrong = wrong_of(race, run)
    if wrong:
        raise BadRun(wrong[0])
    return outcome_of(race, run)


def outcomes(race):
    """The pairs (moment, way) of all outcomes with a winner, ascending."""
    wins = [(way, race.ways[way].window()[0], race.last_win(way)) for way in race.winners()]
    low = min([int(win[1]) for win in wins], default=0)
    high = max([int(win[2]) for win in wins], default=-1)
    for moment in range(low, high + 1):
        for way, first, last in wins:
            if first <= moment <= last:
                yield (moment, way)


def pairs_of(way):
    """The ascending list of the pairs (there, back) of delays of a way."""
    delays = list(range(way.least, way.most + 1))
    return [(there, back) for there in delays for back in delays]


def run_count(race):
    """How many runs there are."""
    counts = [1] + [0] * race.silent
    for way in race.planned():
        delays = race.ways[way].most - race.ways[way].least + 1
        # The place in this list is how many of the ways so far are silent.
        ahead = [0] + counts[:-1]
        counts = [heard * delays * delays + silent for heard, silent in zip(counts, ahead)]
    return sum(counts)


def entries_of(race, run):
    """The entries, in order, of the next way in a run that has begun like this."""
    way = race.ways[len(run)]
    if way.begin is None:
        return [None]
    silent = [other for other in race.planned() if other < len(run) and run[other] is None]
    return ([None] if len(silent) < race.silent else []) + pairs_of(way)


def runs(race):
    """All runs; the entry of the last way changes fastest."""
    if run_count(race) > MOST_RUNS:
        raise TooMany(MOST_RUNS)
    waiting = [()]
    while waiting:
        run = waiting.pop()
        if len(run) == len(race.ways):
            yield run
        else:
            # The last one is looked at next, so the first entry comes first.
            for entry in entries_of(race, run)[::-1]:
                waiting.append((*run, entry))


def check_win(race, way, at):
    """Raise CannotWin if a way cannot win at a moment."""
    if not race.can_win(way, at):
        raise CannotWin(way)


def answer_at(way, at):
    """The pair of delays with which the answer on a way comes at a moment."""
    both = at - way.begin
    there = greater(way.least, both - way.most)
    return (there, both - there)


def win_run(race, way, at):
    """A run in which a way wins at a moment."""
    check_win(race, way, at)
    hurried = race.hurried(way, at)
    entries = []
    for other, told in enumerate(race.ways):
        if other == way:
            entries.append(answer_at(told, at))
        elif other in hurried or told.begin is None:
            entries.append(None)
        else:
            entries.append((told.most, told.most))
    return tuple(entries)


def silent_after(race, way, at):
    """The lots of the ways silent in all runs with a winner and its moment, and in some."""
    check_win(race, way, at)
    surely = race.hurried(way, at)
    if len(surely) == race.silent:
        return surely, surely
    return surely, tuple([other for other in race.planned() if other != way])
