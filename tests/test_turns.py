"""[7], [22]: turns, loads, and what courses show."""

from math import comb

from tests.help import NO_INTEGERS, NO_LISTS, Case, Prickly, dice
from tests.plainturns import fates_of, plain_borders, plain_play, random_course, whole_courses
from wholeline.errors import BadCourse, BadPart, TooMany
from wholeline.plays import Played
from wholeline.turns import Load, Turn, is_right, play

CALM = Turn(1, 2, 4, 2)
HASTY = Turn(1, 3, 1, 2)


class TurnTest(Case):
    def test_attributes(self):
        turn = Turn(1, 2, 3, 4)
        self.same((turn.least, turn.most, turn.turn, turn.numbers), (1, 2, 3, 4))
        turn = Turn(least=50, most=50, turn=200, numbers=8)
        self.same((turn.least, turn.most, turn.turn, turn.numbers), (50, 50, 200, 8))

    def test_wrong_parts(self):
        for value in NO_INTEGERS:
            self.raises(BadPart("least"), Turn, value, value, value, value)
            self.raises(BadPart("most"), Turn, 1, value, value, value)
            self.raises(BadPart("turn"), Turn, 1, 1, value, value)
            self.raises(BadPart("numbers"), Turn, 1, 1, 1, value)
        for least in (0, -1, 51):
            self.raises(BadPart("least"), Turn, least, 51, 0, 0)
        for most in (4, 51, 0):
            self.raises(BadPart("most"), Turn, 5, most, 0, 0)
        for turn in (0, 201, -1):
            self.raises(BadPart("turn"), Turn, 5, 5, turn, 0)
        for numbers in (0, 1, 9):
            self.raises(BadPart("numbers"), Turn, 5, 5, 1, numbers)

    def test_equal(self):
        self.equal_ones(Turn(1, 2, 3, 4), Turn(1, 2, 3, 4))
        for other in (Turn(2, 2, 3, 4), Turn(1, 3, 3, 4), Turn(1, 2, 4, 4), Turn(1, 2, 3, 5)):
            self.unlike_ones(Turn(1, 2, 3, 4), other)
        self.unlike_others(CALM)
        self.not_iterated(CALM)


class LoadTest(Case):
    def test_attributes(self):
        rows = [2, 600]
        load = Load(rows, 500)
        rows.append(1)
        self.same((load.rows, load.quiet, len(load)), ((2, 600), 500, 602))
        self.same(len(Load(rows=(600, 600, 600), quiet=1)), 1800)
        self.not_iterated(load)

    def test_wrong_parts(self):
        for rows in NO_LISTS + [[], (), [1] * 4]:
            self.raises(BadPart("rows"), Load, rows, None)
        for row in NO_INTEGERS + [0, 601, -1]:
            self.raises(BadPart("rows"), Load, [1, row], None)
        for quiet in NO_INTEGERS + [0, 501]:
            self.raises(BadPart("quiet"), Load, [1], quiet)

    def test_equal(self):
        self.equal_ones(Load([1, 2], 3), Load((1, 2), 3))
        self.unlike_ones(Load([1, 2], 3), Load([2, 1], 3))
        self.unlike_ones(Load([1, 2], 3), Load([1, 2], 4))
        self.unlike_others(Load([1], 1))

    def test_borders(self):
        for rows in ([3], [1, 1, 1], [2, 3], [1, 4, 2]):
            load = Load(rows, 1)
            for first in range(sum(rows)):
                for last in range(first, sum(rows)):
                    between = [end for end in plain_borders(load) if first <= end < last]
                    self.same(load.borders(first, last), len(between))


class PlayTest(Case):
    def shows(self, turn, load, course):
        told = play(turn, load, course)
        self.same({name: getattr(told, name) for name in
                   ("sent", "taken", "closed", "lost", "short", "idle", "fault")}, plain_play(turn, load, course))
        return told

    def test_plain_course(self):
        told = self.shows(CALM, Load([2, 1], 10), (("answered", 1, 2), ("answered", 2, 2), ("answered", 1, 1)))
        self.same(told.sent, ((0, 0), (3, 1), (17, 2)))
        self.same(told.taken, ((1, 0), (5, 1), (18, 2)))
        self.same(told.closed, ((3, 0, 0), (7, 1, 1), (19, 2, 2)))
        self.same((told.lost, told.short, told.idle, told.fault), (0, False, 0, False))
        self.assertIs(is_right(Load([2, 1], 10), told), True)

    def test_lost_answer_and_copy(self):
        course = (("come", 1), ("answered", 1, 1))
        told = self.shows(CALM, Load([1], 1), course)
        self.same(told.sent, ((0, 0), (4, 0)))
        self.same(told.taken, ((1, 0),))
        self.same(told.closed, ((6, 0, 1),))
        self.same((told.lost, told.short, told.idle), (1, False, 0))
        self.assertIs(is_right(load=Load([1], 1), played=told), True)

    def test_lost_parcel(self):
        told = self.shows(CALM, Load([1], 1), [("lost",), ("lost",), ("answered", 2, 2)])
        self.same((told.sent, told.taken, told.lost), (((0, 0), (4, 0), (8, 0)), ((10, 2),), 2))

    def test_no_fates(self):
        told = self.shows(CALM, Load([1], 1), ())
        self.same((told.sent, told.taken, told.closed, told.lost), ((), (), (), 0))
        self.same((told.short, told.idle, told.fault), (True, 0, False))
        self.assertIs(is_right(Load([1], 1), told), False)

    def test_short_course_looks_at_its_last_moment(self):
        # At 4 the answer is looked at, then the next parcel has no fate.
        told = self.shows(CALM, Load([2], 1), (("answered", 2, 2),))
        self.same((told.taken, told.closed, told.short), (((2, 0),), ((4, 0, 0),), True))
        # At 1 the copy is sent without a fate; the first sending comes just then.
        told = self.shows(HASTY, Load([1], 1), (("answered", 1, 1),))
        self.same((told.taken, told.closed, told.short), (((1, 0),), (), True))
        told = self.shows(HASTY, Load([1], 1), (("answered", 2, 1),))
        self.same((told.taken, told.closed, told.short), ((), (), True))

    def test_idle_fates(self):
        course = (("answered", 1, 1), ("lost",), ("come", 2))
        told = self.shows(CALM, Load([1], 1), course)
        self.same((told.sent, told.lost, told.short, told.idle, told.fault), (((0, 0),), 0, False, 2, False))
        self.assertIs(is_right(Load([1], 1), told), False)
        self.assertIs(is_right(Load([1], 1), play(CALM, Load([1], 1), course[:2])), False)
        self.assertIs(is_right(Load([1], 1), play(CALM, Load([1], 1), course[:1])), True)

    def test_answer_and_turn_at_one_moment(self):
        # The answer comes just when the turn is over: nothing is sent again.
        told = self.shows(CALM, Load([1], 1), (("answered", 2, 2),))
        self.same((told.sent, told.closed), (((0, 0),), ((4, 0, 0),)))

    def test_copy_is_taken_twice(self):
        # The copy of 0 comes when the reader waits for 2, whose number is 0 again.
        turn = Turn(1, 5, 1, 2)
        load = Load([3], 1)
        late = ("answered", 5, 5)
        course = (("answered", 1, 1), late, ("answered", 1, 1), late, late, late)
        told = self.shows(turn, load, course)
        self.same(told.sent, ((0, 0), (1, 0), (2, 1), (3, 1), (4, 2), (5, 2)))
        self.same(told.taken, ((1, 0), (3, 2), (6, 1)))
        self.same((told.short, told.fault), (True, True))
        self.assertIs(self.shows(turn, load, course[:5]).fault, False)

    def test_answer_is_taken_for_another_parcel(self):
        # The second answer to 0 closes 2, all of whose sendings are lost, or one still on its way.
        turn = Turn(1, 8, 1, 2)
        load = Load([3], 1)
        course = (("answered", 1, 1), ("answered", 1, 8)) + (("answered", 1, 1),) * 2 + (("lost",),) * 5
        told = self.shows(turn, load, course + (("lost",),))
        self.same(told.closed, ((2, 0, 0), (4, 1, 2), (10, 2, 1)))
        self.same((told.short, told.idle, told.fault), (False, 0, True))
        self.assertIs(is_right(load, told), False)
        told = self.shows(turn, load, course + (("come", 8),))
        self.same(told.closed[-1], (10, 2, 1))
        self.same(told.taken[-1], (17, 9))
        self.same((told.short, told.fault, is_right(load, told)), (False, False, True))

    def test_short_course_with_a_closed_parcel_on_its_way(self):
        # As ahead, but another parcel is opened then, and has no fate.
        turn = Turn(1, 8, 1, 2)
        load = Load([4], 1)
        course = (("answered", 1, 1), ("answered", 1, 8)) + (("answered", 1, 1),) * 2 + (("lost",),) * 5
        told = self.shows(turn, load, course + (("lost",),))
        self.same((told.closed[-1], told.short, told.fault), ((10, 2, 1), True, True))
        told = self.shows(turn, load, course + (("come", 8),))
        self.same((told.closed[-1], told.short, told.fault), ((10, 2, 1), True, False))

    def test_fault_with_idle_fates_is_not_shown(self):
        roll = dice(41)
        for _ in range(100):
            course = random_course(roll, HASTY, Load([4], 1))
            self.assertIs(play(HASTY, Load([4], 1), course + (("lost",),)).fault, False)

    def test_random_courses(self):
        roll = dice(42)
        for _ in range(600):
            least = roll.randrange(1, 4)
            turn = Turn(least, roll.randrange(least, 6), roll.randrange(1, 12), roll.randrange(2, 5))
            load = Load([roll.randrange(1, 5) for _ in range(roll.randrange(1, 4))], roll.randrange(1, 6))
            course = random_course(roll, turn, load)
            told = self.shows(turn, load, course)
            self.assertFalse(told.short)
            self.same(told.idle, 0)
            parcels = [told.sent[index][1] for _, index in told.taken]
            right = parcels == list(range(sum(load.rows)))
            self.assertIs(is_right(load, told), right)
            # A whole course shows a fault exactly if it is faulty.
            self.assertIs(told.fault, not right)
            self.check_parts(turn, load, course, roll)

    def check_parts(self, turn, load, course, roll):
        whole = play(turn, load, course)
        for many in {0, 1, roll.randrange(len(course) + 1), len(course) - 1}:
            told = self.shows(turn, load, course[:many])
            self.assertIs(told.short, many < len(course))
            self.assertIs(is_right(load, told), many == len(course) and not whole.fault)
            # Each whole course that begins with one that shows a fault is faulty.
            self.assertFalse(told.fault and not whole.fault)
        self.shows(turn, load, course + (("lost",),))

    def test_calm_turns_are_never_faulty_and_as_many_as_told(self):
        for turn, rows, losses in ((Turn(1, 2, 4, 2), [1, 1], 2), (Turn(1, 1, 2, 2), [3], 3), (Turn(2, 3, 9, 3), [2], 1)):
            load = Load(rows, 1)
            found = list(whole_courses(turn, load, losses))
            self.assertTrue(all(is_right(load, told) for _, told in found))
            k = turn.most - turn.least + 1
            n = sum(rows)
            many = k ** (2 * n) * sum(comb(n + j - 1, j) * (k + 1) ** j for j in range(losses + 1))
            self.same(len(found), many)

    def test_hasty_turn_has_faulty_courses_without_losses(self):
        # First fault by [23]: copy needs D > g + (2m - 3)d for a load of m parcels or more.
        turn = Turn(1, 3, 2, 2)
        found = [told.fault for _, told in whole_courses(turn, Load([2], 1), 0)]
        self.assertIn(True, found)
        self.assertIn(False, found)
        found = [told.fault for _, told in whole_courses(turn, Load([1], 1), 1)]
        self.assertNotIn(True, found)

    def test_copy_that_comes_behind_the_last_closing(self):
        # All is closed, but the copy on its way is still looked at.
        turn = Turn(1, 9, 2, 2)
        load = Load([2], 1)
        course = (("answered", 1, 2), ("answered", 9, 9), ("answered", 1, 1))
        told = self.shows(turn, load, course)
        self.same(told.closed, ((3, 0, 0), (5, 1, 2)))
        self.same(told.taken, ((1, 0), (4, 2), (11, 1)))
        self.same((told.short, told.fault, is_right(load, told)), (False, True, False))

    def test_wrong_courses(self):
        load = Load([1], 1)
        for course in NO_LISTS:
            self.raises(BadCourse(None), play, CALM, load, course)
        wrong = [
            (), ("lost", 1), ("come",), ("come", 0), ("come", 3), ("come", 1, 1), ("answered", 1), ("answered", 1, 3),
            ("answered", 0, 1), ("answered", 1, 1, 1), ["lost"], "lost", ("gone",), ("come", True), ("come", None),
            ("answered", 1, True), ("answered", 1, "1"), (Prickly(),), ("come", Prickly()), (1,), (None, 1),
        ]
        for fate in wrong + NO_INTEGERS:
            self.raises(BadCourse(0), play, CALM, load, [fate])
            self.raises(BadCourse(2), play, CALM, load, [("answered", 1, 1), ("lost",), fate, None])
        told = play(turn=CALM, load=load, course=[("answered", 1, 1)])
        self.assertIs(is_right(load, told), True)

    def test_limits(self):
        turn = Turn(1, 1, 200, 2)
        load = Load([1], 1)
        told = play(turn, load, [("lost",)] * 5000)
        self.same((len(told.sent), told.short, told.sent[-1]), (5000, True, (4999 * 200, 0)))
        self.raises(TooMany(5000), play, turn, load, [("lost",)] * 5001)
        told = play(turn, load, [("lost",)] * 4999 + [("answered", 1, 1)])
        self.same((len(told.sent), told.short, told.lost), (5000, False, 4999))
        # Fates behind the last sending are idle, however many there are.
        self.same(play(turn, load, [("answered", 1, 1)] * 6000).idle, 5999)
        self.raises(BadCourse(5500), play, turn, load, [("lost",)] * 5500 + [None])
        self.raises(TooMany(5000), play, Turn(1, 50, 1, 8), Load([600] * 3, 500), [("answered", 50, 50)] * 6000)

    def test_long_loads(self):
        turn = Turn(1, 2, 4, 8)
        load = Load([600, 600, 600], 500)
        told = play(turn, load, [("answered", 1, 2)] * 1800)
        self.assertIs(is_right(load, told), True)
        self.same(told.taken[-1], (1799 * 3 + 2 * 500 + 1, 1799))

    def test_what_is_given_back_is_alike(self):
        course = [("answered", 1, 1)]
        one, other = play(CALM, Load([1], 1), course), play(CALM, Load([1], 1), course)
        self.equal_ones(one, other)
        self.unlike_ones(one, play(CALM, Load([1], 1), [("answered", 1, 2)]))
        self.unlike_others(one)
        parts = ["sent", "taken", "closed", "lost", "short", "idle", "fault"]
        for name in parts:
            unlike = Played(**{part: (9,) if part == name else getattr(one, part) for part in parts[:3]},
                            **{part: 9 if part == name else getattr(one, part) for part in parts[3:]})
            self.unlike_ones(one, unlike)
        course.clear()
        self.same(one.sent, ((0, 0),))
        self.not_iterated(one)

    def test_short_courses_of_a_hasty_turn(self):
        # Fates one by one: what is shown stays shown, and short courses show it, too.
        turn, load = HASTY, Load([2], 1)
        fates = [fate for fate in fates_of(turn) if 2 not in fate]
        shown = []
        waiting = [()]
        while waiting:
            course = waiting.pop()
            told = self.shows(turn, load, course)
            if told.short and told.fault:
                shown.append(course)
            if told.short and len(course) < 4:
                for fate in fates:
                    further = play(turn, load, course + (fate,))
                    self.assertFalse(told.fault and not further.fault)
                    waiting.append(course + (fate,))
        self.assertTrue(shown)
