"""The times of a plan for each true width."""

from wholeline.plans import is_go, met_choices, met_followers_first
from wholeline.states import behind_probe, check_state, fitting
from wholeline.widths import greatest_going


def longer(times, wait):
    """Times that each take so much longer."""
    return tuple([None if time is None else time + wait for time in times])


def going_slow(game, state):
    """The greatest times of going for each true width."""
    count = game.counts[fitting(state)[0]]
    return tuple([None if need is None else greatest_going(game, count, game.losses - need) for need in state])


def going_quick(game, state):
    """The least times of going for each true width."""
    quick = (2 * game.counts[fitting(state)[0]] - 1) * game.least
    return tuple([None if need is None else quick for need in state])


def probing_slow(game, heard, unheard):
    """The greatest times of a probe, by those behind its answer and its silence."""
    wait = 2 * game.most
    return tuple([last_of(pair) for pair in zip(longer(heard, wait), longer(unheard, wait))])


def probing_quick(game, heard, unheard):
    """The least times of a probe, by those behind its answer and its silence."""
    # A silence takes the same time, however soon an answer could have come.
    soon, late = longer(heard, 2 * game.least), longer(unheard, 2 * game.most)
    return tuple([first_of(pair) for pair in zip(soon, late)])


def times_by(game, choices, when_going, when_probing):
    """A dict with the times from each state on that a plan meets, by what tells those of going and of a probe."""
    times = {}
    for told, choice in met_followers_first(game, choices):
        if is_go(choice):
            times[told] = when_going(game, told)
        else:
            heard, unheard = [times[behind] for behind in behind_probe(game, told, choice)]
            times[told] = when_probing(game, heard, unheard)
    return times


def slow_times(game, choices):
    """A dict with the greatest times from each state on that a plan meets."""
    return times_by(game, choices, going_slow, probing_slow)


def quick_times(game, choices):
    """A dict with the least times from each state on that a plan meets."""
    return times_by(game, choices, going_quick, probing_quick)


def greatest_times(game, state, plan):
    """The greatest time of a plan for each true width."""
    check_state(game, state)
    return slow_times(game, met_choices(game, state, plan))[state]


def least_times(game, state, plan):
    """The least time of a plan for each true width."""
    check_state(game, state)
    return quick_times(game, met_choices(game, state, plan))[state]


def last_of(times):
    """The greatest one of some times, None if there are none."""
    return max([int(time) for time in times if time is not None], default=None)


def first_of(times):
    """The least one of some times, None if there are none."""
    return min([int(time) for time in times if time is not None], default=None)
