"""Chains, which show that so many signs do not do."""

from wholeline.errors import BadNumber
from wholeline.kinds import is_between, is_index
from wholeline.signs import check_limit, signs_do


def check_count(lull, count):
    """Raise BadNumber if any value is no number of signs."""
    if not is_between(count, 0, lull.quiet - 1):
        raise BadNumber(count)


def is_step(lull, count, place, further):
    """Whether a step of a chain goes from one place to another one."""
    if further > place:
        return further == place + 1 and 1 <= place <= count
    return further == place - lull.losses - 1


def is_chain(lull, count, value):
    """Whether any value is a chain for so many signs."""
    if not isinstance(value, tuple) or len(value) == 0:
        return False
    if not all([is_index(place, count + lull.losses + 2) for place in value]):
        return False
    if 1 < value[0] <= count or 1 <= value[-1] <= count:
        return False
    return all([is_step(lull, count, place, further) for place, further in zip(value, value[1:])])


def known_stop(lull, count, place):
    """The stop at a place, as far as it is known: the first sign is at 1 at the earliest."""
    if place > count:
        return lull.quiet + (place - count - 1) * lull.turn
    return 1 if place == 1 else -2 * lull.delay


def bars(lull, limit, count, value):
    """Whether any value is a chain that bars so many signs."""
    if not is_chain(lull, count, value):
        return False
    on = len([place for place, further in zip(value, value[1:]) if further > place])
    back = len(value) - 1 - on
    latest = known_stop(lull, count, value[-1]) + back * limit - on
    return known_stop(lull, count, value[0]) > latest


def bars_signs(lull, limit, count, chain):
    """Whether any value is a chain that bars so many signs."""
    check_limit(limit)
    check_count(lull, count)
    return bars(lull, limit, count, chain)


def chains_from(lull, count, place):
    """The chains from a place that bar so many signs if any chain from there does; not all are chains."""
    between = lull.losses + 1
    # To the first stop: back as far as can be, on to the place from which the last step back goes, and back.
    to_first = list(range(place, -1, -between))
    if to_first[-1] != 0:
        to_first += list(range(to_first[-1] + 1, between + 1)) + [0]
    # To the stop behind the signs: back to a sign, and on.
    to_last = [place] if place <= count else [place, place - between]
    to_last += list(range(to_last[-1] + 1, count + 2))
    return [tuple(to_first), tuple(to_last)]


def barring_chain(lull, limit, count):
    """A chain that bars so many signs, None if so many signs do."""
    check_limit(limit)
    check_count(lull, count)
    for place in [1] + list(range(count + 1, count + lull.losses + 2)):
        for chain in chains_from(lull, count, place):
            if bars(lull, limit, count, chain):
                return chain
    return None


def shows_best(lull, limit, signs, chain):
    """Whether any values are signs that do, and a chain that bars one less."""
    check_limit(limit)
    if not signs_do(lull, limit, signs):
        return False
    return len(signs) == 0 or bars(lull, limit, len(signs) - 1, chain)
