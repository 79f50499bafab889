"""Good periods, and the fewest signs of life."""

from wholeline.boxes import MOST_PERIOD
from wholeline.errors import BadNumber
from wholeline.gaps import are_signs, signs_each, stops_of, widest
from wholeline.kinds import is_between, lesser

MOST_LIMIT = 20000


def check_limit(limit):
    """Raise BadNumber if any value is no limit of a gap."""
    if not is_between(limit, 1, MOST_LIMIT):
        raise BadNumber(limit)


def signs_do(lull, limit, signs):
    """Whether any value is a tuple of signs with a quiet gap of at most the limit."""
    return are_signs(lull, signs) and widest(lull, stops_of(lull, signs)) <= limit


def periods_that_do(lull, limit):
    """The ascending list of the good periods."""
    return [period for period in range(1, MOST_PERIOD + 1) if signs_do(lull, limit, signs_each(lull, period))]


def good_periods(lull, limit):
    """The spans of good periods, each as long as can be."""
    check_limit(limit)
    good = periods_that_do(lull, limit)
    lows = [period for period in good if period - 1 not in good]
    highs = [period for period in good if period + 1 not in good]
    return list(zip(lows, highs))


def fewest_signs(lull, limit):
    """The pair (number of signs, period) with the fewest signs of good periods, None if there are none."""
    check_limit(limit)
    good = periods_that_do(lull, limit)
    # A greater period never has more signs.
    return (len(signs_each(lull, good[-1])), good[-1]) if good else None


def latest_signs(lull, limit, many):
    """So many signs, each as late as it can be in any that do; they do themselves if any do."""
    between = lull.losses + 1
    signs = []
    for place in range(1, many + 1):
        # Each sign behind this one takes a moment of the quiet.
        latest = lull.quiet - 1 - (many - place)
        if many >= between:
            # Of the stops at the places 0, between, 2 * between and so on each one is at most the limit
            # behind the one ahead, and the signs ahead of such a stop take a moment each.
            lots = (place + lull.losses) // between
            latest = lesser(latest, lots * limit - 2 * lull.delay - (lots * between - place))
        signs.append(latest)
    return tuple(signs)


def best_signs(lull, limit):
    """The best signs for a limit, None if no signs will do."""
    check_limit(limit)
    low = 0
    high = lull.quiet - 1
    if not signs_do(lull, limit, latest_signs(lull, limit, high)):
        return None
    # One sign more never makes the quiet gap greater, so the first number that does is found by halves.
    while low < high:
        middle = (low + high) // 2
        if signs_do(lull, limit, latest_signs(lull, limit, middle)):
            high = middle
        else:
            low = middle + 1
    return latest_signs(lull, limit, high)
