"""Runs of plans, and those with the greatest and the least times."""

from wholeline.errors import BadAnswers, BadIndex
from wholeline.kinds import is_integer, is_tuple_of
from wholeline.plans import is_go, met_choices
from wholeline.states import behind_probe, check_state, fitting
from wholeline.widths import greatest_going
from wholeline.widthtimes import quick_times, slow_times


def choices_for(game, state, plan, place):
    """The choices that a plan meets; raises what is wrong with the arguments."""
    check_state(game, state)
    choices = met_choices(game, state, plan)
    if not is_integer(place) or place not in fitting(state):
        raise BadIndex(place)
    return choices


def check_form(run):
    """Raise BadAnswers if any value is no tuple of a tuple of truths and an integer from 0."""
    if not is_tuple_of(run, 2) or not isinstance(run[0], tuple) or not is_integer(run[1]) or run[1] < 0:
        raise BadAnswers("run")
    if not all([isinstance(answer, bool) for answer in run[0]]):
        raise BadAnswers("run")


def probes_of(game, state, choices, answers):
    """The probed places, and the state in which a plan goes just behind some answers, None if it does not."""
    places = []
    for answer in answers:
        if is_go(choices[state]):
            return places, None
        places.append(choices[state])
        heard, unheard = behind_probe(game, state, choices[state])
        state = heard if answer else unheard
    return places, state if is_go(choices[state]) else None


def run_times(game, state, plan, place, run):
    """The least and the greatest time of a run for a true width."""
    choices = choices_for(game, state, plan, place)
    check_form(run)
    answers, left = run
    places, gone = probes_of(game, state, choices, answers)
    probes = list(zip(places, answers))
    if gone is None or any([answer and probe > place for probe, answer in probes]):
        raise BadAnswers("answers")
    lost = len([probe for probe, answer in probes if not answer and probe <= place])
    if state[place] + lost + left > game.losses:
        raise BadAnswers("losses")
    count = game.counts[fitting(gone)[0]]
    heard = len([answer for answer in answers if answer])
    silence = 2 * game.most * (len(answers) - heard)
    least = 2 * game.least * heard + (2 * count - 1) * game.least + left * game.turn
    greatest = 2 * game.most * heard + greatest_going(game, count, left)
    return silence + least, silence + greatest


def answers_to(game, state, place, choices, times, delay):
    """The answers along which the times for a true width stand, and the state behind them."""
    answers = []
    while not is_go(choices[state]):
        heard, unheard = behind_probe(game, state, choices[state])
        behind = times[heard][place]
        answer = behind is not None and behind + 2 * delay == times[state][place]
        answers.append(answer)
        state = heard if answer else unheard
    return tuple(answers), state


def greatest_run(game, state, plan, place):
    """A run with the greatest time for a true width."""
    choices = choices_for(game, state, plan, place)
    answers, gone = answers_to(game, state, place, choices, slow_times(game, choices), game.most)
    return answers, game.losses - gone[place]


def least_run(game, state, plan, place):
    """A run with the least time for a true width."""
    choices = choices_for(game, state, plan, place)
    answers, _ = answers_to(game, state, place, choices, quick_times(game, choices), game.least)
    return answers, 0
