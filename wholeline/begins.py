"""The best begins of ways under a gap."""

from wholeline.errors import BadPart
from wholeline.kinds import is_between, is_index, is_integer, is_list, is_lot, is_tuple_of
from wholeline.races import check_silent, check_ways
from wholeline.ways import MOST_DELAY

MOST_GAP = 500


def check_begins(ways, allowed, silent, gap):
    """Raise what is wrong with what best begins are asked for."""
    check_ways(ways)
    if not are_unlike_ways(allowed, len(ways)):
        raise BadPart("allowed")
    check_silent(silent)
    if not is_between(gap, 0, MOST_GAP):
        raise BadPart("gap")
    if len(allowed) <= silent:
        raise BadPart("allowed")


def are_unlike_ways(value, many):
    """Whether any value is a list of unlike indexes of so many ways."""
    if not is_list(value) or not all([is_index(way, many) for way in value]):
        return False
    return len(set(value)) == len(value)


def by_delay(ways, allowed):
    """The allowed ways by their most delays, rising."""
    lot = [way for way in range(len(ways)) if way in allowed]
    return [way for delay in range(1, MOST_DELAY + 1) for way in lot if ways[way].most == delay]


def best_begins(ways, allowed, silent, gap):
    """The least latest end of all plans, a plan with it, and a paper."""
    check_begins(ways, allowed, silent, gap)
    order = by_delay(ways, allowed)
    falling = order[:silent + 1][::-1]
    ends = [index * gap + 2 * ways[way].most for index, way in enumerate(falling)]
    begins = [None] * len(ways)
    for index, way in enumerate(falling):
        begins[way] = index * gap
    end = max([int(told) for told in ends])
    index = ends.index(end)
    lot = tuple(sorted([int(way) for way in order[silent - index:]]))
    return end, tuple(begins), (index, lot)


def shows_begins(ways, allowed, silent, gap, end, begins, paper):
    """Whether any values show the least latest end and a plan with it."""
    check_begins(ways, allowed, silent, gap)
    if not is_integer(end) or not is_plan(ways, allowed, silent, gap, begins):
        return False
    return latest_of(ways, silent, begins) == end and bars_ahead(ways, allowed, silent, gap, end, paper)


def is_plan(ways, allowed, silent, gap, value):
    """Whether any value is a plan."""
    if not is_tuple_of(value, len(ways)):
        return False
    begun = [way for way in range(len(ways)) if value[way] is not None]
    if len(begun) <= silent or not all([way in allowed for way in begun]):
        return False
    if not all([is_integer(value[way]) and value[way] >= 0 for way in begun]):
        return False
    moments = sorted([int(value[way]) for way in begun])
    return all([later - sooner >= gap for sooner, later in zip(moments, moments[1:])])


def latest_of(ways, silent, begins):
    """The latest end of a plan."""
    ends = [begin + 2 * way.most for way, begin in zip(ways, begins) if begin is not None]
    return sorted([int(end) for end in ends])[silent]


def bars_ahead(ways, allowed, silent, gap, end, value):
    """Whether any value is a pair that shows that no plan ends ahead of a moment."""
    if not is_tuple_of(value, 2):
        return False
    index, lot = value
    if not is_between(index, 0, silent) or not is_lot(lot, len(ways)):
        return False
    # More ways are allowed than silent, so an empty lot leaves out too many.
    if not all([way in allowed for way in lot]) or len(allowed) - len(lot) > silent - index:
        return False
    return index * gap + 2 * min([int(ways[way].most) for way in lot]) == end
