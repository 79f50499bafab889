"""The late number of a state, and the regret of not knowing the width."""

from wholeline.errors import BadPart
from wholeline.kinds import greater, is_integer, is_list_of
from wholeline.states import behind_probe, check_state, fitting, followers_first, reached_from, useful_in
from wholeline.widths import bases_of, greatest_going


def check_dues(game, state, dues):
    """Raise what is wrong with a game, a state of it and dues."""
    check_state(game, state)
    if not is_list_of(dues, len(game), len(game)) or not all([is_integer(due) for due in dues]):
        raise BadPart("dues")


def going_late(game, state, dues):
    """The greatest lateness of going, all arguments being known to fit."""
    can_be = fitting(state)
    count = game.counts[can_be[0]]
    return max([int(greatest_going(game, count, game.losses - state[at]) - dues[at]) for at in can_be])


def probing_late(game, state, place, numbers):
    """The greatest lateness of a probe, by the numbers of both states behind it."""
    one, other = behind_probe(game, state, place)
    return 2 * game.most + greater(numbers[one], numbers[other])


def choices_told(game, state, dues, numbers):
    """The pairs (choice, greatest lateness) of a state, by the late numbers of the states behind it."""
    probes = [(place, probing_late(game, state, place, numbers)) for place in useful_in(state)]
    return [("go", going_late(game, state, dues))] + probes


def late_numbers(game, state, dues):
    """A dict with the late numbers of all states that are reached from one."""
    numbers = {}
    for told in followers_first(game, reached_from(game, state)):
        choices = choices_told(game, told, dues, numbers)
        numbers[told] = min([int(lateness) for _, lateness in choices])
    return numbers


def best_of(game, state, dues, numbers):
    """The tuple of the best choices of a state, by the late numbers."""
    choices = choices_told(game, state, dues, numbers)
    return tuple([choice for choice, lateness in choices if lateness == numbers[state]])


def go_late(game, state, dues):
    """The greatest lateness of going."""
    check_dues(game, state, dues)
    return going_late(game, state, dues)


def late(game, state, dues):
    """The late number."""
    check_dues(game, state, dues)
    return late_numbers(game, state, dues)[state]


def best(game, state, dues):
    """The tuple of all choices by which the late number is reached."""
    check_dues(game, state, dues)
    return best_of(game, state, dues, late_numbers(game, state, dues))


def regret(game, state):
    """The regret of a state: its late number with the bases as dues."""
    check_state(game, state)
    return late_numbers(game, state, bases_of(game))[state]
