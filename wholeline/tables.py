"""Tables, which show that no plan brings the lateness below a number."""

from wholeline.errors import BadPart, BadTable
from wholeline.kinds import greater, is_integer, is_tuple_of
from wholeline.regret import check_dues, going_late, late_numbers
from wholeline.states import behind_probe, is_told_state, reached_from, useful_in


def is_pair(game, value):
    """Whether any value is a tuple of a state and an integer."""
    return is_tuple_of(value, 2) and is_told_state(game, value[0]) and is_integer(value[1])


def greatest_told(game, table):
    """A dict with the greatest number that stands in a table for each state."""
    greatest = {}
    for item in table:
        if is_pair(game, item):
            state, number = item
            greatest[state] = greater(number, greatest.get(state, number))
    return greatest


def is_upheld(game, state, place, number, greatest):
    """Whether a number stands behind a probe that is at most the probe's time less."""
    least = number - 2 * game.most
    return any([behind in greatest and greatest[behind] >= least for behind in behind_probe(game, state, place)])


def wrong_word(game, dues, item, greatest):
    """The first wrong word of an item of a table, None if it has none."""
    if not is_pair(game, item):
        return "pair"
    state, number = item
    if number > going_late(game, state, dues):
        return "go"
    if not all([is_upheld(game, state, place, number, greatest) for place in useful_in(state)]):
        return "probe"
    return None


def check_table(game, state, dues, table):
    """The greatest number that stands in a good table for a state."""
    check_dues(game, state, dues)
    if not isinstance(table, list):
        raise BadPart("table")
    greatest = greatest_told(game, table)
    for index, item in enumerate(table):
        word = wrong_word(game, dues, item, greatest)
        if word is not None:
            raise BadTable((index, word))
    if state not in greatest:
        raise BadTable((len(table), "start"))
    return greatest[state]


def told_table(game, state, dues):
    """The list of the pairs (state, late number) of all states that are reached."""
    check_dues(game, state, dues)
    numbers = late_numbers(game, state, dues)
    return [(told, numbers[told]) for told in reached_from(game, state)]
