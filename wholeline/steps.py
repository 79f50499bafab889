"""Steps, by which free room is told, and rooms."""

from wholeline.errors import BadNumber, BadPart, BadSteps, TooMany
from wholeline.kinds import is_between, is_integer, is_list_of, lesser

MOST_BOUNDS = 4
MOST_UNITS = 60
MOST_CAP = 99


def told_of(bounds, free):
    """The greatest bound that is not above some free units, 0 if there is none."""
    return max([int(bound) for bound in bounds if bound <= free], default=0)


def are_under(bounds, others):
    """Whether bounds tell of no number of free units more than other ones."""
    return all([told_of(bounds, free) <= told_of(others, free) for free in range(MOST_UNITS + 1)])


class Steps:
    """One to four ascending bounds."""

    def __init__(self, bounds):
        if not is_list_of(bounds, 1, MOST_BOUNDS):
            raise BadSteps(None)
        for index, bound in enumerate(bounds):
            if not is_between(bound, 1, MOST_UNITS) or (index > 0 and bound <= bounds[index - 1]):
                raise BadSteps(index)
        self.bounds = tuple(bounds)

    def __call__(self, free):
        if not is_integer(free) or free < 0:
            raise BadNumber(free)
        return told_of(self.bounds, free)

    def __len__(self):
        return len(self.bounds)

    def __contains__(self, bound):
        return is_integer(bound) and bound in self.bounds

    def __le__(self, other):
        return isinstance(other, Steps) and are_under(self.bounds, other.bounds)

    def __add__(self, bound):
        if not is_between(bound, 1, MOST_UNITS) or bound in self.bounds:
            raise BadNumber(bound)
        if len(self.bounds) == MOST_BOUNDS:
            raise TooMany(MOST_BOUNDS)
        return Steps(sorted([int(told) for told in (*self.bounds, bound)]))

    def __eq__(self, other):
        return isinstance(other, Steps) and self.bounds == other.bounds


def check_cap(cap):
    """Raise BadNumber if any value is no cap."""
    if not is_between(cap, 0, MOST_CAP):
        raise BadNumber(cap)


class Room:
    """Room for some units, and the steps by which it is told."""

    def __init__(self, size, steps):
        if not is_between(size, 1, MOST_UNITS):
            raise BadPart("size")
        if not isinstance(steps, Steps):
            raise BadPart("steps")
        self.size = size
        self.steps = steps

    def told(self, held):
        """What the room tells while it holds some units."""
        if not is_between(held, 0, self.size):
            raise BadNumber(held)
        return told_of(self.steps.bounds, self.size - held)

    def reach(self, held, cap):
        """The greatest piece that may come while some units are held."""
        told = self.told(held)
        check_cap(cap)
        return lesser(cap, told)

    def top(self, cap):
        """The greatest length that goes, 0 if only 0 does."""
        check_cap(cap)
        least = self.steps.bounds[0]
        if cap == 0 or least > self.size:
            return 0
        return self.size - least + lesser(cap, least)

    def __le__(self, other):
        if not isinstance(other, Room):
            return False
        return self.size <= other.size and self.steps <= other.steps

    def __eq__(self, other):
        return isinstance(other, Room) and self.size == other.size and self.steps == other.steps
