"""[23]: whether numbers and turn take each parcel once and in order."""

from tests.help import Case, dice
from tests.plainfaults import FaultSearch
from tests.plainturns import plain_borders, random_course
from wholeline.numbers import first_fault, holds, least_numbers, safe_turn
from wholeline.turns import Load, Turn, play

LOADS = [([1], 1), ([2], 1), ([3], 1), ([4], 1), ([1, 1], 1), ([1, 1], 3), ([1, 2], 2), ([2, 1], 2), ([1, 1, 1], 1),
         ([2, 2], 1), ([2, 2], 4)]


def plain_fault(turn, load):
    """The first fault by the words of [23]."""
    d, most, m = turn.least, turn.most, turn.numbers
    if turn.turn >= 2 * most:
        return None
    r = (2 * most - 1) // turn.turn
    g = max(1, 2 * d - r * turn.turn)
    many, ends = sum(load.rows), plain_borders(load)
    for i in range(many):
        y = sum(i <= end < i + m - 1 for end in ends)
        z = sum(i <= end < i + m for end in ends)
        if i + m - 1 < many and most > g + (2 * m - 3) * d + y * load.quiet:
            return ("copy", i)
        if i + m < many and 2 * most > g + (2 * m - 2) * d + z * load.quiet:
            return ("answer", i)
    return None


def small_turns(top):
    for most in range(1, top + 1):
        for least in range(1, most + 1):
            for turn in range(1, 2 * most + 2):
                for numbers in (2, 3):
                    yield Turn(least, most, turn, numbers)


class FirstFaultTest(Case):
    def test_kinds(self):
        # r is 2 and g is 1: a copy comes too late if D is above 1 + d.
        self.same(first_fault(Turn(1, 3, 2, 2), Load([2], 1)), ("copy", 0))
        self.same(first_fault(Turn(2, 3, 2, 2), Load([3], 1)), ("answer", 0))
        self.assertIsNone(first_fault(Turn(2, 3, 2, 2), Load([2], 1)))
        self.assertIsNone(first_fault(turn=Turn(1, 3, 2, 2), load=Load([1], 1)))

    def test_calm_turns_hold_each_load(self):
        for turn in (Turn(1, 50, 100, 2), Turn(1, 1, 2, 2), Turn(1, 9, 18, 2), Turn(1, 9, 200, 2)):
            for rows in ([1], [600] * 3, [1, 600]):
                self.assertIsNone(first_fault(turn, Load(rows, 1)))
                self.assertIs(holds(turn, Load(rows, 1)), True)
        self.same(first_fault(Turn(1, 9, 17, 2), Load([2], 1)), ("copy", 0))

    def test_just_met_and_just_missed(self):
        # T 2, r 5, g 1, d 1, m 3: D of 4 is just 1 + 3; the answer needs 2D at most 1 + 4.
        self.same(first_fault(Turn(1, 4, 2, 3), Load([3], 1)), None)
        self.same(first_fault(Turn(1, 5, 2, 3), Load([3], 1)), ("copy", 0))
        self.same(first_fault(Turn(1, 4, 2, 3), Load([4], 1)), ("answer", 0))
        # g above 1: T 3, D 2, d 2: r is 1, g is 1; with T 2 and D 2: r is 1, g is 2.
        self.same(first_fault(Turn(2, 2, 2, 2), Load([9], 1)), None)
        self.same(first_fault(Turn(2, 3, 5, 2), Load([9], 1)), ("answer", 0))

    def test_copy_ahead_of_answer(self):
        self.same(first_fault(Turn(1, 9, 2, 2), Load([3], 1)), ("copy", 0))
        # A border behind the first row is enough for its copies, but for no answers.
        self.same(first_fault(Turn(1, 3, 2, 2), Load([1, 2], 1)), ("answer", 0))
        self.same(first_fault(Turn(1, 3, 2, 2), Load([1, 2], 3)), ("copy", 1))

    def test_borders(self):
        # D is 3, above 1 + d, and 2D is 6, above 1 + 2d: a copy lacks 1 moment, an answer 3.
        self.same(first_fault(Turn(1, 3, 2, 2), Load([1, 1], 1)), None)
        self.same(first_fault(Turn(1, 3, 2, 2), Load([1, 1, 1], 1)), ("answer", 0))
        # Two borders lie between parcels 0 and 2 of three rows, so 2 * 2 is enough.
        self.assertIsNone(first_fault(Turn(1, 3, 2, 2), Load([1, 1, 1], 2)))
        self.same(first_fault(Turn(1, 3, 2, 2), Load([1, 1, 2], 4)), ("copy", 2))

    def test_late_faults_in_long_loads(self):
        self.same(first_fault(Turn(1, 3, 2, 3), Load([2, 2, 600], 7)), ("answer", 4))
        self.same(first_fault(Turn(1, 50, 99, 8), Load([6, 7, 600], 500)), ("copy", 13))
        self.assertIsNone(first_fault(Turn(1, 3, 3, 8), Load([600, 600, 600], 1)))

    def test_by_the_words(self):
        roll = dice(51)
        seen = set()
        for _ in range(6000):
            least = roll.randrange(1, 8)
            turn = Turn(least, roll.randrange(least, 20), roll.randrange(1, 41), roll.randrange(2, 6))
            rows = [roll.randrange(1, 9) for _ in range(roll.randrange(1, 4))]
            load = Load(rows, roll.randrange(1, 30))
            fault = plain_fault(turn, load)
            self.same(first_fault(turn, load), fault)
            self.assertIs(holds(turn, load), fault is None)
            seen.add(fault)
        self.assertTrue({("copy", 0), ("answer", 0), ("copy", 3), ("answer", 3), None} <= seen)

    def test_over_all_courses(self):
        for turn in small_turns(3):
            for rows, quiet in LOADS:
                load = Load(rows, quiet)
                self.assertIs(holds(turn, load), not FaultSearch(turn, load).has_fault())

    def test_over_all_courses_of_longer_delays(self):
        for turn in (Turn(1, 4, 3, 2), Turn(2, 4, 3, 2), Turn(1, 5, 7, 2), Turn(3, 5, 4, 2), Turn(4, 5, 9, 3), Turn(2, 4, 5, 3)):
            for rows, quiet in LOADS:
                load = Load(rows, quiet)
                self.assertIs(holds(turn, load), not FaultSearch(turn, load).has_fault())

    def test_no_course_of_a_load_that_holds_is_faulty(self):
        roll = dice(52)
        held = 0
        while held < 150:
            least = roll.randrange(1, 6)
            most = roll.randrange(least, 10)
            turn = Turn(least, most, roll.randrange(1, 2 * most), roll.randrange(2, 5))
            load = Load([roll.randrange(1, 5) for _ in range(roll.randrange(1, 4))], roll.randrange(1, 12))
            if holds(turn, load):
                held += 1
                for _ in range(4):
                    self.assertIs(play(turn, load, random_course(roll, turn, load)).fault, False)


class LeastTest(Case):
    def test_least_numbers(self):
        self.same(least_numbers(Turn(1, 3, 2, 8), Load([600], 1)), 4)
        self.same(least_numbers(turn=Turn(1, 3, 2, 8), load=Load([3], 1)), 3)
        self.same(least_numbers(Turn(1, 3, 6, 8), Load([600], 1)), 2)
        self.assertIsNone(least_numbers(Turn(1, 50, 1, 2), Load([600], 1)))
        # With 8 numbers just: 2D is 16, at most 1 + 14d + 1.
        self.same(least_numbers(Turn(1, 7, 1, 2), Load([600], 1)), 8)
        self.assertIsNone(least_numbers(Turn(1, 8, 1, 2), Load([600], 1)))

    def test_safe_turn(self):
        self.same(safe_turn(Turn(1, 3, 1, 2), Load([600], 1)), 6)
        self.same(safe_turn(turn=Turn(1, 3, 200, 2), load=Load([1], 1)), 1)
        self.same(safe_turn(Turn(3, 3, 200, 2), Load([600], 1)), 1)
        self.same(safe_turn(Turn(1, 50, 1, 2), Load([600], 1)), 100)

    def test_against_all_turns_and_numbers(self):
        roll = dice(53)
        between = 0
        for _ in range(400):
            least = roll.randrange(1, 12)
            most = roll.randrange(least, 13)
            turn = Turn(least, most, roll.randrange(1, 27), roll.randrange(2, 9))
            load = Load([roll.randrange(1, 6) for _ in range(roll.randrange(1, 4))], roll.randrange(1, 10))
            fits = [m for m in range(2, 9) if plain_fault(Turn(least, most, turn.turn, m), load) is None]
            self.same(least_numbers(turn, load), min(fits, default=None))
            wrong = [t for t in range(1, 201) if plain_fault(Turn(least, most, t, turn.numbers), load) is not None]
            safe = max(wrong, default=0) + 1
            self.same(safe_turn(turn, load), safe)
            between += len(wrong) not in (0, safe - 1)
        # Some turns hold although greater ones do not.
        self.assertTrue(between)
