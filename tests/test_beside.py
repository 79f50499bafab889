"""[43]: milder lines."""

from tests.help import Case, dice
from tests.plainlines import LINE, hasty_line, line_with, random_line
from wholeline.bars import bars
from wholeline.beside import is_milder
from wholeline.letters import Mail
from wholeline.linetimes import greatest_time
from wholeline.steps import Room, Steps
from wholeline.ways import Way

BASE = line_with(head=3, places=2, cost=4, silent=1, losses=2, numbers=4, widths=[6, 8])


def plain_milder(line, other):
    """By the words of [43]."""
    equal = all(getattr(line, word) == getattr(other, word) for word in ("mail", "ways", "turn", "period", "quiet"))
    more = line.numbers >= other.numbers and line.room.size >= other.room.size
    more = more and line.widths[0] >= other.widths[0] and line.places >= other.places
    less = all(getattr(line, word) <= getattr(other, word) for word in ("head", "cost", "silent", "losses"))
    bounds, others = line.room.steps.bounds, other.room.steps.bounds
    return equal and more and less and bounds[0] == others[0] and set(others) <= set(bounds)


class MilderTest(Case):
    def both(self, word, value):
        other = BASE.with_setting(word, value)
        return is_milder(line=other, other=BASE), is_milder(BASE, other)

    def test_itself(self):
        for line in (LINE, BASE, line_with(silent=2)):
            self.assertIs(is_milder(line, line), True)
        self.assertIs(is_milder(line_with(), LINE), True)

    def test_each_setting_alone(self):
        for word, value in (("numbers", 5), ("places", 3), ("head", 2), ("cost", 3), ("silent", 0), ("losses", 1),
                            ("widths", [7]), ("widths", [7, 9, 10]), ("room", Room(11, Steps([4, 8]))),
                            ("room", Room(10, Steps([4, 8, 9]))), ("room", Room(10, Steps([4, 5, 8])))):
            self.same(self.both(word, value), (True, False))
        # Equal settings, or ones that may not differ.
        for word, value in (("turn", 13), ("period", 6), ("quiet", 21), ("mail", Mail([[((), 5)]])),
                            ("ways", [BASE.ways[0], Way(1, 1, 2)]), ("ways", BASE.ways[:1])):
            self.same(self.both(word, value), (False, False))
        # Only the least width counts.
        self.same(self.both("widths", [6, 50, 60]), (True, True))
        self.same(self.both("widths", [6]), (True, True))

    def test_bounds(self):
        def both(one, other):
            return (is_milder(line_with(room=Room(10, Steps(one))), line_with(room=Room(10, Steps(other)))),
                    is_milder(line_with(room=Room(10, Steps(other))), line_with(room=Room(10, Steps(one)))))

        # One is left out; the least ones unlike; neither has all of the other one's.
        self.same(both([4, 6, 8], [4, 8]), (True, False))
        self.same(both([4, 8], [3, 4, 8]), (False, False))
        self.same(both([3, 8], [4, 8]), (False, False))
        self.same(both([4, 6], [4, 8]), (False, False))
        self.same(both([4], [4]), (True, True))
        self.same(both([4, 8], [8]), (False, False))

    def test_several_settings(self):
        better = BASE.with_setting("numbers", 8).with_setting("head", 1).with_setting("losses", 1)
        self.same([is_milder(better, BASE), is_milder(BASE, better)], [True, False])
        mixed = better.with_setting("places", 1)
        self.same([is_milder(mixed, BASE), is_milder(BASE, mixed)], [False, False])

    def random_other(self, roll, line):
        for _ in range(roll.randrange(1, 4)):
            word, value = roll.choice([
                ("numbers", roll.randrange(2, 9)), ("places", roll.randrange(5)), ("head", roll.randrange(1, 5)),
                ("cost", roll.randrange(2, 5)), ("silent", roll.randrange(3)), ("losses", roll.randrange(1, 4)),
                ("widths", [line.widths[0] + roll.randrange(4)]), ("quiet", line.quiet + roll.randrange(2)),
                ("room", Room(min(60, line.room.size + roll.randrange(9)), line.room.steps)),
                ("room", Room(line.room.size, Steps(sorted({*line.room.steps.bounds[:3], roll.randrange(1, 20)})))),
            ])
            line = line.with_setting(word, value)
        return line

    def test_by_the_words(self):
        roll = dice(481)
        told = []
        for many in range(500):
            line = hasty_line(roll) if many % 3 == 0 else random_line(roll)
            other = self.random_other(roll, line)
            for one, two in ((line, other), (other, line)):
                self.assertIs(is_milder(one, two), plain_milder(one, two))
                told.append(plain_milder(one, two))
        self.assertGreater(min(sum(told), len(told) - sum(told)), 100)

    def test_no_bar_and_no_greater_time(self):
        roll = dice(482)
        looked = 0
        while looked < 60:
            line = random_line(roll, head=1, silent=0)
            other = self.random_other(roll, line)
            if is_milder(other, line) and not bars(line):
                self.same(bars(other), [])
                self.assertLessEqual(greatest_time(other), greatest_time(line))
                looked += 1
