"""Fronts: the times of the plans that no plan betters."""

from wholeline.errors import TooMany
from wholeline.kinds import ascending
from wholeline.states import behind_probe, check_state, followers_first, reached_from, useful_in
from wholeline.widthtimes import going_slow, probing_slow

MOST_WIDTHS_IN_FRONTS = 4


def is_as_quick(one, other):
    """Whether no time of a vector is greater than that of another one."""
    for time, late in zip(one, other):
        if time is not None and time > late:
            return False
    return True


def is_kept_out(vector, kept):
    """Whether one of some vectors is as quick as this one for each width."""
    for told in kept:
        if is_as_quick(told, vector):
            return True
    return False


def unbettered(vectors):
    """The vectors of a list that none of them betters, each once."""
    kept = []
    for vector in vectors:
        if not is_kept_out(vector, kept):
            kept = [told for told in kept if not is_as_quick(vector, told)] + [vector]
    return kept


def front_in(game, state, fronts):
    """The front of a state, by those of the states behind its probes."""
    vectors = [going_slow(game, state)]
    for place in useful_in(state):
        answer, silence = behind_probe(game, state, place)
        # A state may be met behind both, and a plan has one choice for it. Of two unlike ones, that of the longer way
        # there makes no time greater if it is taken on the shorter way, too; so the front is that of plans.
        vectors.extend([
            probing_slow(game, heard, unheard) for heard in fronts[answer] for unheard in fronts[silence]
        ])
    return unbettered(vectors)


def front(game, state):
    """The ascending tuple of the vectors of the front of a state."""
    check_state(game, state)
    if len(game) > MOST_WIDTHS_IN_FRONTS:
        raise TooMany(MOST_WIDTHS_IN_FRONTS)
    fronts = {}
    for told in followers_first(game, reached_from(game, state)):
        fronts[told] = front_in(game, told, fronts)
    return tuple(ascending(fronts[state]))
