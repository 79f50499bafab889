"""What the tests share: a test case that compares errors, and odd values."""

import random
import unittest


class Prickly:
    """A value that cannot be compared, hashed or tested."""

    def __eq__(self, other):
        raise AssertionError("compared")

    def __hash__(self):
        raise AssertionError("hashed")

    def __bool__(self):
        raise AssertionError("tested")

    def __len__(self):
        raise AssertionError("measured")


class Same:
    """A value of another class that says that it equals everything."""

    def __eq__(self, other):
        return True

    __hash__ = None


# Values that are no integer; none of them is a name or a proper list of something.
NO_INTEGERS = [True, False, None, "", "a", "Abc", b"a", (), [], {}, (1,), [1], {1: 1}, object(), Prickly()]
NO_LISTS = [True, False, None, 0, 1, "", "ab", b"ab", {}, {0: 0}, {1, 2}, object(), Prickly(), range(2), iter([])]


class Case(unittest.TestCase):
    """A test case that looks at an error's class and value."""

    def raises(self, expected, call, *args, **named):
        with self.assertRaises(type(expected)) as caught:
            call(*args, **named)
        self.assertIs(type(caught.exception), type(expected))
        self.assertEqual(repr(vars(caught.exception)), repr(vars(expected)))

    def first_raises(self, expected, generator):
        """The error comes when the first value is asked for, not ahead of that."""
        self.raises(expected, next, generator)

    def same(self, one, other):
        """Equal, and of the same kinds throughout."""
        self.assertEqual(one, other)
        self.assertEqual(repr(one), repr(other))

    def not_iterated(self, value):
        with self.assertRaises(TypeError):
            iter(value)
        with self.assertRaises(TypeError):
            list(value)

    def equal_ones(self, one, other):
        self.assertIs(one == other, True)
        self.assertIs(one != other, False)

    def unlike_ones(self, one, other):
        self.assertIs(one == other, False)
        self.assertIs(one != other, True)

    def unlike_others(self, value):
        for other in [None, 0, 1, True, "a", (), [], {}, object(), Same()]:
            self.assertIs(value == other, False)


def dice(seed):
    """A source of numbers that is the same in each run."""
    return random.Random(seed)
