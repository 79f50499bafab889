"""Races run moment by moment, which the tests of Part 3 share."""

from itertools import product

from wholeline.races import Race
from wholeline.ways import Way


def plain_runs(race):
    """All runs in order, each entry None or a pair of delays."""
    options = []
    for way in race.ways:
        pairs = [None]
        if way.begin is not None:
            pairs += product(range(way.least, way.most + 1), repeat=2)
        options.append(pairs)
    planned = [way.begin is not None for way in race.ways]
    for run in product(*options):
        if sum(entry is None for entry, there in zip(run, planned) if there) <= race.silent:
            yield run


def plain_outcome(race, run):
    """(winner, moment, sent) of a run, by [6], one moment after the other."""
    sent = []
    for moment in range(1200):
        answers = [
            way for way in sent
            if run[way] is not None and race.ways[way].begin + sum(run[way]) == moment
        ]
        if answers:
            return min(answers), moment, tuple(sorted(sent))
        sent += [way for way, told in enumerate(race.ways) if told.begin == moment]
    return None, None, tuple(sorted(sent))


def small_races(roll, many, most_ways=3, most_delay=3):
    """Some races with few runs."""
    for _ in range(many):
        ways = []
        for _ in range(roll.randrange(1, most_ways + 1)):
            least = roll.randrange(1, most_delay)
            most = roll.randrange(least, min(least + 2, most_delay + 1))
            ways.append(Way(roll.choice([None, 0, 0, 1, 2, 3, 4, 5, 6]), least, most))
        yield Race(ways, roll.choice([0, 0, 1, 1, 2, 3]))


SPECIAL = [
    Race([Way(0, 1, 2), Way(0, 1, 2)], 1),
    Race([Way(2, 1, 1), Way(0, 2, 2)], 1),
    Race([Way(0, 2, 2), Way(2, 1, 1)], 1),
    Race([Way(0, 2, 2), Way(4, 1, 1)], 1),
    Race([Way(0, 1, 3), Way(1, 1, 1), Way(2, 1, 2)], 1),
    Race([Way(0, 1, 2), Way(None, 1, 2)], 1),
    Race([Way(None, 1, 2)], 0),
    Race([Way(None, 1, 2)], 3),
    Race([Way(4, 1, 2)], 1),
    Race([Way(0, 1, 2), Way(3, 1, 1)], 2),
    Race([Way(3, 1, 2), Way(3, 1, 2), Way(3, 1, 1)], 2),
]
