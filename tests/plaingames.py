"""Games searched through run by run, which the tests of Part 6 share."""

from itertools import product

from wholeline.widths import Game


def plain_state(game, log):
    """The state behind a log from the start, by the words of [32]."""
    state = []
    for place in range(len(game.widths)):
        lost = sum(not told and probe <= place for probe, told in log)
        out = any(told and probe > place for probe, told in log) or lost > game.losses
        state.append(None if out else lost)
    return tuple(state)


def plain_useful(state):
    can_be = [place for place, need in enumerate(state) if need is not None]
    return [place for place in range(len(state)) if any(at < place for at in can_be) and any(at >= place for at in can_be)]


def plain_behind(game, state, place):
    """Both states behind a probe, by the words of [32]."""
    heard = tuple(None if at < place else need for at, need in enumerate(state))
    unheard = []
    for at, need in enumerate(state):
        if need is not None and at >= place:
            need = need + 1 if need + 1 <= game.losses else None
        unheard.append(need)
    return heard, tuple(unheard)


def all_states(game):
    """All states of a game, by the words of [32]."""
    for value in product([None, *range(game.losses + 1)], repeat=len(game.widths)):
        can_be = [place for place, need in enumerate(value) if need is not None]
        needs = [need for need in value if need is not None]
        if can_be and can_be == list(range(can_be[0], can_be[-1] + 1)) and needs == sorted(needs):
            yield value


def plain_met(game, state, plan):
    """The states that a plan meets, in their order."""
    met = [state]
    for ahead in met:
        if plan[ahead] != "go":
            met += [behind for behind in plain_behind(game, ahead, plan[ahead]) if behind not in met]
    return met


def all_plans(game, state):
    """All plans, each with just the states that it meets."""
    waiting = [{}]
    while waiting:
        plan = waiting.pop()
        met = [state]
        for ahead in met:
            if ahead not in plan:
                waiting += [{**plan, ahead: choice} for choice in ["go", *plain_useful(ahead)]]
                break
            if plan[ahead] != "go":
                met += [behind for behind in plain_behind(game, ahead, plan[ahead]) if behind not in met]
        else:
            yield plan


def plain_runs(game, state, plan):
    """All runs of a plan, as tuples (place of the true width, least time, greatest time)."""
    for place, need in enumerate(state):
        if need is not None:
            yield from runs_for(game, state, plan, place, game.losses - need)


def runs_for(game, state, plan, place, left):
    """The runs for a true width, so many losses being left."""
    choice = plan[state]
    if choice == "go":
        count = game.counts[[at for at, need in enumerate(state) if need is not None][0]]
        for lost in range(left + 1):
            rest = lost * game.turn
            yield place, (2 * count - 1) * game.least + rest, (2 * count - 1) * game.most + rest
        return
    heard, unheard = plain_behind(game, state, choice)
    if choice <= place:
        for _, low, high in runs_for(game, heard, plan, place, left):
            yield place, low + 2 * game.least, high + 2 * game.most
    if choice > place or left:
        rest = left if choice > place else left - 1
        for _, low, high in runs_for(game, unheard, plan, place, rest):
            yield place, low + 2 * game.most, high + 2 * game.most


def plain_lateness(game, state, plan, dues):
    return max(high - dues[place] for place, _, high in plain_runs(game, state, plan))


def random_game(roll, most_widths, most_losses=3):
    many = roll.randrange(1, most_widths + 1)
    widths = sorted(roll.sample(range(1, 30), many))
    counts = sorted([roll.randrange(1, 25) for _ in range(many)], reverse=True)
    least = roll.randrange(1, 4)
    return Game(widths, counts, least=least, most=roll.randrange(least, 6), turn=roll.randrange(1, 12),
                losses=roll.randrange(most_losses + 1))


def random_state(roll, game):
    """A state that is reached from the start."""
    state = (0,) * len(game.widths)
    for _ in range(roll.randrange(4)):
        places = plain_useful(state)
        if places:
            state = roll.choice(plain_behind(game, state, roll.choice(places)))
    return state


def random_plan(roll, game, state):
    """A plan with a choice for each state that can be reached."""
    plan = {}
    waiting = [state]
    while waiting:
        ahead = waiting.pop()
        if ahead not in plan:
            plan[ahead] = roll.choice(["go", *plain_useful(ahead), *plain_useful(ahead)])
            for place in plain_useful(ahead):
                waiting += plain_behind(game, ahead, place)
    return plan
