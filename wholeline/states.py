"""States: which width can still be the true one, and after how many lost probes."""

from wholeline.errors import BadLog, BadProbe, BadState
from wholeline.kinds import is_between, is_integer, is_list, is_tuple_of
from wholeline.widths import check_game


def start(game):
    """The state at the start."""
    check_game(game)
    return (0,) * len(game)


def fitting(state):
    """The ascending list of the places of the widths that can be."""
    return [place for place, need in enumerate(state) if need is not None]


def is_told_state(game, value):
    """Whether any value is a state of a game that is known to be one."""
    if not is_tuple_of(value, len(game)):
        return False
    if not all([need is None or is_between(need, 0, game.losses) for need in value]):
        return False
    can_be = fitting(value)
    if not can_be or can_be[-1] - can_be[0] >= len(can_be):
        return False
    needs = [value[place] for place in can_be]
    return all([one <= other for one, other in zip(needs, needs[1:])])


def is_state(game, value):
    """Whether any value is a state."""
    check_game(game)
    return is_told_state(game, value)


def check_state(game, state):
    """Raise what is wrong with a game and a state of it."""
    check_game(game)
    if not is_told_state(game, state):
        raise BadState(state)


def useful_in(state):
    """The useful places in a state that is known to be one."""
    can_be = fitting(state)
    return tuple(can_be[1:])


def is_useful(state, value):
    """Whether any value is a useful place in a state."""
    return is_integer(value) and value in useful_in(state)


def behind_answer(state, place):
    """The state behind the answer to a useful probe."""
    return tuple([None if at < place else need for at, need in enumerate(state)])


def one_more(game, need):
    """A need that rises by 1, None if it cannot."""
    return None if need is None or need == game.losses else need + 1


def behind_silence(game, state, place):
    """The state behind the silence of a useful probe."""
    return tuple([need if at < place else one_more(game, need) for at, need in enumerate(state)])


def behind_probe(game, state, place):
    """Both states behind a useful probe, that of the answer first."""
    return [behind_answer(state, place), behind_silence(game, state, place)]


def check_probe(game, state, place):
    """Raise what is wrong with a game, a state and a useful place there."""
    check_state(game, state)
    if not is_useful(state, place):
        raise BadProbe(place)


def useful(game, state):
    """The tuple of the useful places, ascending."""
    check_state(game, state)
    return useful_in(state)


def answered(game, state, place):
    """The state behind the answer to a probe."""
    check_probe(game, state, place)
    return behind_answer(state, place)


def silent(game, state, place):
    """The state behind the silence of a probe."""
    check_probe(game, state, place)
    return behind_silence(game, state, place)


def is_entry(state, value):
    """Whether any value is an entry of a log in a state."""
    return is_tuple_of(value, 2) and is_useful(state, value[0]) and isinstance(value[1], bool)


def state_of(game, log):
    """The state behind a log from the start."""
    state = start(game)
    if not is_list(log):
        raise BadLog(None)
    for index, entry in enumerate(log):
        if not is_entry(state, entry):
            raise BadLog(index)
        place, is_answered = entry
        state = behind_answer(state, place) if is_answered else behind_silence(game, state, place)
    return state


def reached_from(game, state):
    """The list of all states to which useful probes lead from one that is known to be one."""
    told = [state]
    known = {state: True}
    looked = 0
    while looked < len(told):
        ahead = told[looked]
        looked += 1
        for place in useful_in(ahead):
            for behind in behind_probe(game, ahead, place):
                if behind not in known:
                    known[behind] = True
                    told.append(behind)
    return told


def reached(game, state):
    """The tuple of all states to which useful probes lead, this one first."""
    check_state(game, state)
    return tuple(reached_from(game, state))


def rank_of(game, state):
    """A number that is less for both states behind each probe."""
    return sum([game.losses + 1 - state[place] for place in fitting(state)])


def followers_first(game, states):
    """Some states as a list in which both states behind a probe stand ahead of the one in which it is sent."""
    ranks = [rank_of(game, state) for state in states]
    return [state for least in sorted(set(ranks)) for state, rank in zip(states, ranks) if rank == least]
