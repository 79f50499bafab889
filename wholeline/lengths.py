"""How long letters are behind the heads ahead of them."""

from wholeline.books import MOST_PLACES, check_places
from wholeline.errors import BadPart
from wholeline.kinds import is_between, is_integer
from wholeline.letters import Mail, check_heads


def check_mail(mail):
    """Raise BadPart if any value is no Mail."""
    if not isinstance(mail, Mail):
        raise BadPart("mail")


def check_cost(cost):
    """Raise BadPart if no long head costs so much."""
    if not is_between(cost, 2, 9):
        raise BadPart("cost")


def distances(heads):
    """For each head how many unlike other heads were used since its last use."""
    check_heads(heads)
    return [distance_at(heads, index) for index in range(len(heads))]


def distance_at(heads, index):
    """The distance of one head, None if it was not used ahead."""
    between = set()
    for head in heads[:index][::-1]:
        if head == heads[index]:
            return len(between)
        between.add(head)
    return None


def shorts(heads, places):
    """The list of the truths whether each head is short."""
    check_heads(heads)
    check_places(places)
    return [is_near(distance, places) for distance in distances(heads)]


def is_near(distance, places):
    """Whether a head of this distance is still held."""
    return distance is not None and distance < places


def letter_lengths(mail, places, cost):
    """The list of the lengths of all letters."""
    check_mail(mail)
    check_places(places)
    check_cost(cost)
    costs = [1 if short else cost for short in shorts(mail.heads_told(), places)]
    lengths = []
    first = 0
    for heads, body in mail.letters_told():
        lengths.append(sum(costs[first:first + len(heads)]) + body)
        first += len(heads)
    return lengths


def places_for(mail, cost, most):
    """The least number of places with which no letter is longer, or None."""
    check_mail(mail)
    check_cost(cost)
    if not is_integer(most) or most < 0:
        raise BadPart("most")
    for places in range(MOST_PLACES + 1):
        if all([length <= most for length in letter_lengths(mail, places, cost)]):
            return places
    return None
