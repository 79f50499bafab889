"""[24]: the times of loads that hold."""

from tests.help import NO_INTEGERS, Case, dice
from tests.plainturns import random_course, whole_courses
from wholeline.errors import BadIndex, BadPart, TooMany, Unsafe
from wholeline.numbers import first_fault, holds
from wholeline.turns import Load, Turn, is_right, play
from wholeline.waytimes import (earliest_course, latest_course, most_sendings, taken_earliest, taken_latest)

CALM = Turn(1, 2, 4, 2)
UNSAFE = Turn(1, 3, 2, 2)
SMALL = [
    (Turn(1, 2, 4, 2), [1, 1], 2), (Turn(1, 2, 3, 2), [2], 1), (Turn(1, 3, 2, 4), [1], 1), (Turn(2, 3, 9, 3), [2], 1),
    (Turn(1, 1, 1, 2), [2], 3), (Turn(1, 2, 1, 2), [1], 1), (Turn(2, 3, 3, 2), [1, 1], 1), (Turn(2, 2, 3, 2), [1, 2, 1], 2),
    (Turn(1, 2, 2, 2), [2], 0), (Turn(1, 2, 4, 2), [1], 3),
]


class TimesTest(Case):
    def test_plain_times(self):
        load = Load([2, 1], 10)
        self.same([taken_latest(CALM, load, 0, parcel) for parcel in range(3)], [2, 6, 20])
        self.same([taken_latest(CALM, load, 3, parcel) for parcel in range(3)], [14, 18, 32])
        self.same([taken_earliest(CALM, load, parcel) for parcel in range(3)], [1, 3, 15])
        self.same([most_sendings(CALM, load, losses) for losses in range(4)], [3, 4, 5, 6])
        self.same(taken_latest(turn=CALM, load=load, losses=1, parcel=2), 24)
        self.same(taken_earliest(turn=CALM, load=load, parcel=2), 15)
        self.same(most_sendings(turn=Turn(1, 2, 3, 2), load=load, losses=1), 7)

    def test_many_sendings_of_a_short_turn(self):
        self.same(most_sendings(Turn(2, 2, 1, 2), Load([2], 1), 0), 8)
        self.same(most_sendings(Turn(2, 2, 3, 2), Load([2], 1), 1), 5)

    def test_against_all_courses(self):
        for turn, rows, losses in SMALL:
            load = Load(rows, 1)
            self.assertIs(holds(turn, load), True)
            found = list(whole_courses(turn, load, losses, 10 ** 6))
            for parcel in range(len(load)):
                moments = [told.taken[parcel][0] for _, told in found]
                self.same(taken_latest(turn, load, losses, parcel), max(moments))
                self.same(taken_earliest(turn, load, parcel), min(moments))
            self.same(most_sendings(turn, load, losses), max(len(course) for course, _ in found))
            self.check_courses(turn, load, losses, [course for course, _ in found])

    def check_courses(self, turn, load, losses, every):
        latest = latest_course(turn, load, losses)
        self.assertIn(latest, every)
        self.same(len(latest), most_sendings(turn, load, losses))
        told = play(turn, load, latest)
        self.same([at for at, _ in told.taken], [taken_latest(turn, load, losses, at) for at in range(len(load))])
        earliest = earliest_course(turn, load)
        told = play(turn, load, earliest)
        moments = [taken_earliest(turn, load, at) for at in range(len(load))]
        self.same([at for at, _ in told.taken], moments)
        self.same(told.lost, 0)
        alike = [len(course) for course in every if [at for at, _ in play(turn, load, course).taken] == moments]
        self.same(len(earliest), min(alike))

    def test_courses_of_loads_that_hold(self):
        roll = dice(55)
        looked = 0
        while looked < 250:
            least = roll.randrange(1, 9)
            most = roll.randrange(least, 12)
            turn = Turn(least, most, roll.randrange(1, 30), roll.randrange(2, 9))
            load = Load([roll.randrange(1, 9) for _ in range(roll.randrange(1, 4))], roll.randrange(1, 20))
            if not holds(turn, load):
                continue
            looked += 1
            losses = roll.randrange(4)
            told = play(turn, load, latest_course(turn, load, losses))
            self.assertIs(is_right(load, told), True)
            self.same([at for at, _ in told.taken], [taken_latest(turn, load, losses, at) for at in range(len(load))])
            self.same((len(told.sent), told.lost), (most_sendings(turn, load, losses), losses))
            told = play(turn, load, earliest_course(turn, load))
            self.assertIs(is_right(load, told), True)
            self.same([at for at, _ in told.taken], [taken_earliest(turn, load, at) for at in range(len(load))])
            told = play(turn, load, random_course(roll, turn, load, 0.1))
            for parcel, (moment, _) in enumerate(told.taken):
                self.assertGreaterEqual(moment, taken_earliest(turn, load, parcel))
                if told.lost <= 3:
                    self.assertLessEqual(moment, taken_latest(turn, load, told.lost, parcel))
                    self.assertLessEqual(len(told.sent), most_sendings(turn, load, told.lost))

    def test_courses_of_5000_sendings_and_more(self):
        # Two delays of 50 and a turn of 10: ten sendings of each parcel.
        turn = Turn(50, 50, 10, 8)
        self.same(len(latest_course(turn, Load([500], 1), 0)), 5000)
        self.same(len(earliest_course(turn, Load([500], 1))), 5000)
        self.same(len(latest_course(turn, Load([499], 1), 3)), 4993)
        self.assertIs(is_right(Load([500], 1), play(turn, Load([500], 1), latest_course(turn, Load([500], 1), 0))), True)
        self.raises(TooMany(5000), latest_course, turn, Load([500], 1), 1)
        self.raises(TooMany(5000), latest_course, turn, Load([501], 1), 0)
        self.raises(TooMany(5000), earliest_course, turn, Load([501], 1))
        self.same(most_sendings(turn, Load([600] * 3, 1), 3), 18003)
        self.same(len(latest_course(CALM, Load([600] * 3, 500), 3)), 1803)
        # As few sendings as can be may fit where the most do not.
        turn = Turn(1, 7, 2, 8)
        self.same(len(earliest_course(turn, Load([600] * 2, 1))), 1200)
        self.raises(TooMany(5000), latest_course, turn, Load([600] * 2, 1), 0)


class ErrorsTest(Case):
    def test_losses_come_first(self):
        load = Load([2], 1)
        for value in NO_INTEGERS + [-1, 4]:
            self.raises(BadPart("losses"), taken_latest, UNSAFE, load, value, value)
            self.raises(BadPart("losses"), most_sendings, UNSAFE, load, value)
            self.raises(BadPart("losses"), latest_course, UNSAFE, load, value)

    def test_then_the_parcel(self):
        for load in (Load([2], 1), Load([1, 1], 1)):
            for value in NO_INTEGERS + [-1, 2, 600]:
                self.raises(BadIndex(value), taken_latest, UNSAFE, load, 0, value)
                self.raises(BadIndex(value), taken_earliest, UNSAFE, load, value)
                self.raises(BadIndex(value), taken_earliest, CALM, load, value)

    def test_then_what_is_unsafe(self):
        for turn, load in ((UNSAFE, Load([2], 1)), (UNSAFE, Load([1, 2], 3)), (Turn(2, 3, 2, 2), Load([600] * 3, 1))):
            fault = first_fault(turn, load)
            self.raises(Unsafe(fault), taken_latest, turn, load, 0, 0)
            self.raises(Unsafe(fault), taken_earliest, turn, load, 1)
            self.raises(Unsafe(fault), most_sendings, turn, load, 3)
            self.raises(Unsafe(fault), latest_course, turn, load, 1)
            self.raises(Unsafe(fault), earliest_course, turn, load)
        # Too long a course of a load that does not hold.
        self.raises(Unsafe(("copy", 0)), earliest_course, Turn(1, 50, 1, 2), Load([600], 1))
        self.raises(Unsafe(("copy", 0)), latest_course, Turn(1, 50, 1, 2), Load([600], 1), 0)
