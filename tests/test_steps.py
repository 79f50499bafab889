"""[14]: steps and rooms."""

from itertools import combinations

from tests.help import NO_INTEGERS, NO_LISTS, Case
from wholeline.errors import BadNumber, BadPart, BadSteps, TooMany
from wholeline.steps import Room, Steps

SOME_BOUNDS = [bounds for many in range(1, 5) for bounds in combinations((1, 2, 3, 7, 59, 60), many)]


def plain_told(bounds, free):
    return max([bound for bound in bounds if bound <= free] + [0])


class StepsTest(Case):
    def test_bounds(self):
        self.same(Steps([4, 8]).bounds, (4, 8))
        self.same(Steps(bounds=(1, 2, 59, 60)).bounds, (1, 2, 59, 60))

    def test_wrong_bounds(self):
        for bounds in NO_LISTS + [[], (), [1, 2, 3, 4, 5], [None] * 5]:
            self.raises(BadSteps(None), Steps, bounds)
        for bound in NO_INTEGERS + [0, -1, 61]:
            self.raises(BadSteps(0), Steps, [bound, bound])
            self.raises(BadSteps(2), Steps, [1, 2, bound, 1])
        self.raises(BadSteps(1), Steps, [3, 3, None])
        self.raises(BadSteps(1), Steps, [3, 2])
        self.raises(BadSteps(3), Steps, [1, 2, 3, 3])

    def test_told(self):
        for bounds in SOME_BOUNDS:
            steps = Steps(bounds)
            for free in list(range(64)) + [1000]:
                self.same(steps(free), plain_told(bounds, free))
        self.same(Steps([5])(free=4), 0)
        for free in NO_INTEGERS + [-1]:
            self.raises(BadNumber(free), Steps([1]), free)

    def test_length_and_members(self):
        for bounds in SOME_BOUNDS:
            self.assertEqual(len(Steps(bounds)), len(bounds))
        steps = Steps([1, 8])
        self.assertIs(1 in steps, True)
        self.assertIs(8 in steps, True)
        for value in NO_INTEGERS + [0, 2, -1, 61, [8]]:
            self.assertIs(value in steps, False)
        self.assertIs(True in steps, False)
        self.not_iterated(steps)

    def test_under(self):
        for bounds in SOME_BOUNDS:
            for others in SOME_BOUNDS[::3]:
                under = all(plain_told(bounds, free) <= plain_told(others, free) for free in range(61))
                self.assertIs(Steps(bounds) <= Steps(others), under)
        self.assertIs(Steps([60]) <= Steps([1]), False)
        self.assertIs(Steps([60]) <= Steps([60]), True)
        for other in NO_INTEGERS + NO_LISTS + [Room(1, Steps([1]))]:
            self.assertIs(Steps([1]) <= other, False)

    def test_one_more(self):
        self.same((Steps([4, 8]) + 6).bounds, (4, 6, 8))
        self.same((Steps([4]) + 60).bounds, (4, 60))
        steps = Steps([4, 8])
        self.same((steps + 1).bounds, (1, 4, 8))
        self.same(steps.bounds, (4, 8))
        for bound in NO_INTEGERS + [0, -1, 61, 4, 8]:
            self.raises(BadNumber(bound), steps.__add__, bound)
        full = Steps([1, 2, 3, 4])
        for bound in [True, None, 0, 61, 4]:
            self.raises(BadNumber(bound), lambda: full + bound)
        self.raises(TooMany(4), lambda: full + 5)

    def test_one_more_tells_no_less(self):
        for bounds in SOME_BOUNDS:
            for bound in (1, 5, 30, 60):
                if len(bounds) < 4 and bound not in bounds:
                    self.assertIs(Steps(bounds) <= Steps(bounds) + bound, True)

    def test_equal(self):
        self.equal_ones(Steps([4, 8]), Steps((4, 8)))
        self.unlike_ones(Steps([4, 8]), Steps([4]))
        self.unlike_others(Steps([4]))

    def test_lists_may_be_changed(self):
        bounds = [4, 8]
        steps = Steps(bounds)
        bounds[0] = 7
        bounds.append(9)
        self.same((steps.bounds, steps(5)), ((4, 8), 4))


class RoomTest(Case):
    def test_attributes(self):
        room = Room(size=10, steps=Steps([4, 8]))
        self.assertEqual(room.size, 10)
        self.equal_ones(room.steps, Steps([4, 8]))

    def test_wrong_parts(self):
        for size in NO_INTEGERS + [0, 61, -1]:
            self.raises(BadPart("size"), Room, size, None)
        for steps in NO_INTEGERS + [1, [1]]:
            self.raises(BadPart("steps"), Room, 60, steps)

    def test_told_and_reach(self):
        for bounds in SOME_BOUNDS[::4]:
            for size in (1, 7, 60):
                room = Room(size, Steps(bounds))
                for held in range(size + 1):
                    told = plain_told(bounds, size - held)
                    self.same(room.told(held), told)
                    for cap in (0, 1, 5, 99):
                        self.same(room.reach(held, cap), min(cap, told))
        self.same(Room(10, Steps([4, 8])).reach(held=3, cap=9), 4)

    def test_wrong_numbers(self):
        room = Room(10, Steps([4, 8]))
        for held in NO_INTEGERS + [-1, 11]:
            self.raises(BadNumber(held), room.told, held)
            self.raises(BadNumber(held), room.reach, held, 100)
        for cap in NO_INTEGERS + [-1, 100]:
            self.raises(BadNumber(cap), room.reach, 10, cap)
            self.raises(BadNumber(cap), room.top, cap)

    def test_top(self):
        self.same(Room(10, Steps([4, 8])).top(5), 10)
        self.same(Room(10, Steps([4, 8])).top(cap=3), 9)
        self.same(Room(10, Steps([4, 8])).top(0), 0)
        self.same(Room(3, Steps([4, 8])).top(99), 0)
        self.same(Room(4, Steps([4, 8])).top(99), 4)

    def test_order(self):
        self.assertIs(Room(10, Steps([4])) <= Room(10, Steps([4, 8])), True)
        self.assertIs(Room(10, Steps([4])) <= Room(9, Steps([4, 8])), False)
        self.assertIs(Room(9, Steps([4, 8])) <= Room(10, Steps([4])), False)
        self.assertIs(Room(9, Steps([4])) <= Room(10, Steps([4])), True)
        for other in NO_INTEGERS + [Steps([4]), 9]:
            self.assertIs(Room(9, Steps([4])) <= other, False)

    def test_equal(self):
        self.equal_ones(Room(9, Steps([4])), Room(9, Steps([4])))
        self.unlike_ones(Room(9, Steps([4])), Room(8, Steps([4])))
        self.unlike_ones(Room(9, Steps([4])), Room(9, Steps([5])))
        self.unlike_others(Room(9, Steps([4])))
        self.not_iterated(Room(9, Steps([4])))
