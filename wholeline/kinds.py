"""What values are: the tests that all parts share."""

ALPHABET = "abcdefghijklmnopqrstuvwxyz"


def is_integer(value):
    """Whether any value is an int that is neither True nor False."""
    return isinstance(value, int) and not isinstance(value, bool)


def is_between(value, low, high):
    """Whether any value is an integer from low to high."""
    return is_integer(value) and low <= value <= high


def is_index(value, many):
    """Whether any value is the index of one of so many things."""
    return is_between(value, 0, many - 1)


def is_list(value):
    """Whether any value may stand where a list is asked for."""
    return isinstance(value, (list, tuple))


def is_list_of(value, low, high):
    """Whether any value is a list with from low to high items."""
    return is_list(value) and low <= len(value) <= high


def is_name(value):
    """Whether any value is a string of one to eight letters."""
    if not isinstance(value, str) or not 1 <= len(value) <= 8:
        return False
    return all([sign in ALPHABET for sign in value])


def is_tuple_of(value, many):
    """Whether any value is a tuple with so many items."""
    return isinstance(value, tuple) and len(value) == many


def is_told_by(value, word, many):
    """Whether any value is a tuple with so many items, the first one this word."""
    return is_tuple_of(value, many) and isinstance(value[0], str) and value[0] == word


def are_rising_indexes(values, many):
    """Whether the items of a list are ascending indexes of so many things."""
    if not all([is_index(value, many) for value in values]):
        return False
    return all([one < other for one, other in zip(values, values[1:])])


def is_lot(value, many):
    """Whether any value is an ascending tuple of indexes of so many things."""
    return isinstance(value, tuple) and are_rising_indexes(value, many)


def ascending(rows):
    """The ascending list of some tuples."""
    told = []
    for row in rows:
        place = len(told)
        while place > 0 and row < told[place - 1]:
            place -= 1
        told.insert(place, row)
    return told


# Classes of the package compare, so min and max are shown plain numbers here.
def lesser(one, other):
    """The lesser one of two integers."""
    return min(int(one), int(other))


def greater(one, other):
    """The greater one of two integers."""
    return max(int(one), int(other))
