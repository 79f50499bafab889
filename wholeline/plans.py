"""Plans, which tell in each state whether to probe or to go."""

from wholeline.errors import BadPart, BadPlan
from wholeline.regret import best_of, check_dues, going_late, late_numbers, probing_late
from wholeline.states import (behind_answer, behind_probe, behind_silence, check_state, fitting, followers_first,
                              is_told_state, is_useful, reached_from)


def is_go(value):
    """Whether any value is the choice to go."""
    return isinstance(value, str) and value == "go"


def met_choices(game, state, plan):
    """A dict with the choices of the states that a plan meets, in their order; raises what is wrong with it."""
    if not isinstance(plan, dict):
        raise BadPart("plan")
    # A key with truths in it equals a state, but is none.
    told = {key: choice for key, choice in plan.items() if is_told_state(game, key)}
    met = [state]
    choices = {}
    while len(choices) < len(met):
        ahead = met[len(choices)]
        if ahead not in told:
            raise BadPlan((ahead, "lacks"))
        choice = told[ahead]
        if not is_go(choice) and not is_useful(ahead, choice):
            raise BadPlan((ahead, "choice"))
        choices[ahead] = choice
        further = [] if is_go(choice) else behind_probe(game, ahead, choice)
        met.extend([behind for behind in further if behind not in met])
    return choices


def met_followers_first(game, choices):
    """The pairs (state, choice) of a plan, those of the states behind a probe ahead of it."""
    return [(told, choices[told]) for told in followers_first(game, list(choices))]


def check_plan(game, state, dues, plan):
    """The lateness of a plan."""
    check_dues(game, state, dues)
    numbers = {}
    for told, choice in met_followers_first(game, met_choices(game, state, plan)):
        if is_go(choice):
            numbers[told] = going_late(game, told, dues)
        else:
            numbers[told] = probing_late(game, told, choice, numbers)
    return numbers[state]


def told_plan(game, state, dues):
    """A plan with the late number as its lateness, just with the states that it meets."""
    check_dues(game, state, dues)
    numbers = late_numbers(game, state, dues)
    first = {told: best_of(game, told, dues, numbers)[0] for told in reached_from(game, state)}
    return met_choices(game, state, first)


def courses(game, state, plan):
    """All courses of a plan, an answer ahead of a silence."""
    check_state(game, state)
    choices = met_choices(game, state, plan)
    waiting = [(state, ())]
    while waiting:
        told, log = waiting.pop()
        choice = choices[told]
        if is_go(choice):
            yield (log, fitting(told)[0])
        else:
            # The last one is looked at next.
            waiting.append((behind_silence(game, told, choice), (*log, (choice, False))))
            waiting.append((behind_answer(told, choice), (*log, (choice, True))))


def most_probes(game, state, plan):
    """The greatest number of probes of a course."""
    check_state(game, state)
    probes = {}
    for told, choice in met_followers_first(game, met_choices(game, state, plan)):
        behind = [] if is_go(choice) else behind_probe(game, told, choice)
        probes[told] = max([int(probes[further]) + 1 for further in behind], default=0)
    return probes[state]
