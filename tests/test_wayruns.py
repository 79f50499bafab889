"""[25]: all courses, and their number."""

from itertools import islice

from tests.help import NO_INTEGERS, Case
from tests.plainturns import fates_of, whole_courses
from wholeline.errors import BadPart
from wholeline.turns import Load, Turn, is_right, play
from wholeline.wayruns import all_courses, count_courses

CALM = [(Turn(1, 2, 4, 2), [1, 1], 2), (Turn(1, 1, 2, 2), [3], 3), (Turn(2, 3, 9, 3), [2], 1), (Turn(1, 3, 6, 2), [1], 2),
        (Turn(1, 2, 5, 8), [3], 0), (Turn(1, 2, 4, 2), [1], 3)]
HASTY = [(Turn(1, 2, 3, 2), [2], 1), (Turn(1, 3, 2, 2), [1], 1), (Turn(1, 1, 1, 2), [2], 2), (Turn(1, 2, 1, 2), [1], 1),
         (Turn(2, 3, 3, 2), [1, 1], 1), (Turn(1, 2, 2, 2), [3], 0)]


class CoursesTest(Case):
    def test_a_small_one(self):
        self.same(list(all_courses(Turn(1, 2, 4, 2), Load([1], 1), 0)), [
            (("answered", 1, 1),), (("answered", 1, 2),), (("answered", 2, 1),), (("answered", 2, 2),)])
        self.same(list(all_courses(turn=Turn(1, 1, 2, 2), load=Load([1], 1), losses=1)), [
            (("answered", 1, 1),), (("come", 1), ("answered", 1, 1)), (("lost",), ("answered", 1, 1))])

    def test_all_in_their_order(self):
        for turn, rows, losses in CALM + HASTY:
            load = Load(rows, 1)
            fates = fates_of(turn)
            found = [course for course, _ in whole_courses(turn, load, losses, 10 ** 6)]
            found = sorted(found, key=lambda course: [fates.index(fate) for fate in course])
            self.same(list(all_courses(turn, load, losses)), found)

    def test_faulty_ones_too(self):
        turn, load = Turn(1, 3, 2, 2), Load([2], 1)
        shown = [play(turn, load, course) for course in islice(all_courses(turn, load, 0), 6000)]
        self.assertTrue(any(told.fault for told in shown))
        self.assertTrue(any(is_right(load, told) for told in shown))
        self.assertFalse(any(told.short or told.idle for told in shown))

    def test_long_ones(self):
        load = Load([600] * 3, 500)
        first, second = islice(all_courses(Turn(1, 2, 4, 2), load, 3), 2)
        self.same(first, (("answered", 1, 1),) * 1800)
        self.same(second, (("answered", 1, 1),) * 1799 + (("answered", 1, 2),))
        # Courses may be longer than those that can be played.
        first = next(all_courses(Turn(50, 50, 10, 8), load, 0))
        self.same(first, (("answered", 50, 50),) * 18000)

    def test_wrong_losses(self):
        for value in NO_INTEGERS + [-1, 4]:
            self.first_raises(BadPart("losses"), all_courses(Turn(1, 1, 1, 2), Load([1], 1), value))


class CountTest(Case):
    def test_numbers(self):
        for turn, rows, losses in CALM:
            load = Load(rows, 1)
            self.same(count_courses(turn, load, losses), len(list(all_courses(turn, load, losses))))
        self.same(count_courses(turn=Turn(1, 2, 4, 2), load=Load([2], 1), losses=3), 2 ** 4 * (1 + 2 * 3 + 3 * 9 + 4 * 27))
        self.same(count_courses(Turn(1, 1, 200, 2), Load([600] * 3, 1), 0), 1)
        self.same(count_courses(Turn(1, 50, 100, 2), Load([600], 1), 1), 50 ** 1200 * (1 + 600 * 51))

    def test_wrong_parts(self):
        for value in NO_INTEGERS + [-1, 4]:
            self.raises(BadPart("losses"), count_courses, Turn(1, 2, 3, 2), Load([1], 1), value)
        for turn in (Turn(1, 2, 3, 2), Turn(1, 50, 99, 8), Turn(2, 2, 1, 2)):
            self.raises(BadPart("turn"), count_courses, turn, Load([1], 1), 0)
        self.same(count_courses(Turn(1, 50, 100, 2), Load([1], 1), 0), 2500)
