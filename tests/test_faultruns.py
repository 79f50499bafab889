"""[22], [23]: courses that show faults."""

from tests.help import Case, dice
from tests.plainturns import plain_play
from wholeline.faultruns import fault_course
from wholeline.numbers import first_fault
from wholeline.turns import Load, Turn, play


class FaultCourseTest(Case):
    def shows(self, turn, load):
        fault = first_fault(turn, load)
        course = fault_course(turn, load)
        if fault is None:
            self.assertIsNone(course)
            return None
        self.assertIsInstance(course, tuple)
        told = play(turn, load, course)
        self.assertIs(told.fault, True)
        self.same(told.idle, 0)
        self.same(told.lost, 0 if fault[0] == "copy" else 1)
        return told

    def test_none_if_it_holds(self):
        for turn, load in ((Turn(1, 3, 6, 2), Load([600], 1)), (Turn(1, 3, 2, 2), Load([1], 1)), (Turn(2, 2, 1, 2), Load([9], 1))):
            self.assertIsNone(fault_course(turn, load))

    def test_a_copy_needs_no_loss(self):
        turn, load = Turn(1, 3, 2, 2), Load([2], 1)
        told = self.shows(turn, load)
        self.same(plain_play(turn, load, fault_course(turn=turn, load=load))["fault"], True)
        # The last taking is that of a copy of parcel 0.
        self.same(told.sent[told.taken[-1][1]][1], 0)
        self.same(len(told.taken), 3)

    def test_an_answer_needs_one_loss(self):
        turn, load = Turn(2, 3, 2, 2), Load([3], 1)
        told = self.shows(turn, load)
        # Parcel 2 is closed by the answer to a sending of parcel 0.
        self.same([told.sent[index][1] for _, parcel, index in told.closed if parcel == 2], [0])

    def test_first_faults_of_later_parcels(self):
        seen = set()
        for turn, load in (
            (Turn(1, 3, 2, 2), Load([1, 2], 3)), (Turn(1, 3, 2, 2), Load([1, 1, 2], 4)),
            (Turn(1, 3, 2, 3), Load([2, 2, 600], 7)), (Turn(1, 50, 99, 8), Load([6, 7, 600], 500)),
            (Turn(1, 3, 2, 2), Load([1, 2], 1)), (Turn(49, 50, 1, 2), Load([1, 600], 500)),
        ):
            told = self.shows(turn, load)
            self.assertIsNotNone(told)
            seen.add(first_fault(turn, load)[1])
        self.assertTrue({0, 1, 2, 4, 13} <= seen)

    def test_long_delays_and_short_turns(self):
        for least in (1, 2, 7, 20, 30, 45):
            for turn in (1, 2, 3, 49, 50, 98, 99):
                for numbers in (2, 5, 8):
                    self.shows(Turn(least, 50, turn, numbers), Load([600, 600], 1))

    def test_small_ones(self):
        kinds = set()
        for most in range(1, 8):
            for least in range(1, most + 1):
                for turn in range(1, 2 * most + 1):
                    for numbers in (2, 3, 4):
                        for rows, quiet in (([9], 1), ([2], 1), ([2, 1, 2], 1), ([1, 4], 9), ([3, 1, 5], 2)):
                            load = Load(rows, quiet)
                            self.shows(Turn(least, most, turn, numbers), load)
                            kinds.add(first_fault(Turn(least, most, turn, numbers), load))
        self.assertTrue({("copy", 0), ("copy", 1), ("answer", 0), ("answer", 1), None} <= kinds)

    def test_random_ones(self):
        roll = dice(54)
        for _ in range(1500):
            least = roll.randrange(1, 12)
            turn = Turn(least, roll.randrange(least, 51), roll.randrange(1, 100), roll.randrange(2, 9))
            load = Load([roll.randrange(1, 12) for _ in range(roll.randrange(1, 4))], roll.randrange(1, 60))
            self.shows(turn, load)
