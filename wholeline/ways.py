"""Ways, on which a line may go."""

from wholeline.errors import BadBox, BadPart
from wholeline.kinds import is_between, is_list_of, is_tuple_of

MOST_BEGIN = 1000
MOST_DELAY = 50
MOST_BOXES = 3
MOST_KEEP = 10000


def is_begin(value):
    """Whether any value is a begin of a way, None included."""
    return value is None or is_between(value, 0, MOST_BEGIN)


def are_delays(least, most):
    """Whether any two values are a least and a most delay."""
    return is_between(most, 1, MOST_DELAY) and is_between(least, 1, most)


def is_box(value, least, most):
    """Whether any value is a box of a way with these delays."""
    if not is_tuple_of(value, 4):
        return False
    near, far, shortest, longest = value
    if not is_between(far, 0, most) or not is_between(near, 0, far) or near > least:
        return False
    return is_between(longest, 1, MOST_KEEP) and is_between(shortest, 1, longest)


class Way:
    """A way: when it begins, its delays and its boxes."""

    def __init__(self, begin, least, most, boxes=()):
        if not is_begin(begin):
            raise BadPart("begin")
        if not are_delays(least, most):
            raise BadPart("delays")
        if not is_list_of(boxes, 0, MOST_BOXES):
            raise BadPart("boxes")
        for index, box in enumerate(boxes):
            if not is_box(box, least, most):
                raise BadBox(index)
        self.begin = begin
        self.least = least
        self.most = most
        self.boxes = tuple(boxes)

    def window(self):
        """The pair of the first and the last moment of an answer, None if not planned."""
        if self.begin is None:
            return None
        return (self.begin + 2 * self.least, self.begin + 2 * self.most)

    def begun_at(self, begin):
        """The Way with another begin."""
        return Way(begin, self.least, self.most, self.boxes)

    def __eq__(self, other):
        if not isinstance(other, Way) or self.begin != other.begin:
            return False
        return self.least == other.least and self.most == other.most and self.boxes == other.boxes
