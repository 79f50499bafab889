"""[26]: papers of faults and of times."""

from itertools import islice

from tests.help import NO_INTEGERS, Case, Prickly, Same, dice
from tests.plainturns import fates_of, plain_play, random_course
from wholeline.errors import BadIndex, BadPart, Unsafe
from wholeline.faultruns import fault_course
from wholeline.numbers import first_fault, holds
from wholeline.turnpapers import shows_fault, shows_time
from wholeline.turns import Load, Turn
from wholeline.waytimes import earliest_course, latest_course, taken_earliest, taken_latest
from wholeline.wayruns import all_courses

CALM = Turn(1, 2, 4, 2)
HASTY = Turn(1, 3, 2, 2)
NO_PAPERS = [
    None, True, 0, "", "fault", "latest", (), ("fault",), ("latest",), ("latest", 3), ("fault", ()), ("fault", None),
    ("fault", "course"), ["fault", ()], (1, 2), (1, 2, 3), (Prickly(), ()), ("fault", Prickly()), Prickly(), Same(),
    ("latest", Prickly(), ()), ("latest", 3, Prickly()), ("earliest", 1, None), {"fault": 1}, b"fault", (Same(), ()),
    ("fault", (Prickly(),)), ("fault", (Same(),)), ("fault", ((Prickly(),),)), ("fault", (("come", Prickly()),)),
]


class FaultTest(Case):
    def test_courses_of_first_faults(self):
        roll = dice(61)
        seen = set()
        for _ in range(500):
            least = roll.randrange(1, 6)
            turn = Turn(least, roll.randrange(least, 15), roll.randrange(1, 20), roll.randrange(2, 5))
            load = Load([roll.randrange(1, 7) for _ in range(roll.randrange(1, 4))], roll.randrange(1, 20))
            fault = first_fault(turn, load)
            if fault is not None:
                course = fault_course(turn, load)
                kind = fault[0]
                seen.add(kind)
                for losses in range(4):
                    self.assertIs(shows_fault(turn, load, losses, ("fault", course)), kind == "copy" or losses > 0)
                for many in (len(course) // 2, len(course) - 1):
                    shows = plain_play(turn, load, course[:many])["fault"]
                    self.assertIs(shows_fault(turn, load, 3, ("fault", course[:many])), shows)
                self.assertIs(shows_fault(turn, load, 3, ["fault", course]), False)
                self.assertIs(shows_fault(turn, load, 3, ("fault", list(course))), False)
                self.assertIs(shows_fault(turn, load, 3, ("latest", course)), False)
                self.assertIs(shows_fault(turn, load, 3, ("fault", course, 1)), False)
        self.assertEqual(seen, {"copy", "answer"})

    def test_idle_fates_show_nothing(self):
        load = Load([2], 1)
        for course in islice(all_courses(HASTY, load, 0), 0, None, 40):
            fault = plain_play(HASTY, load, course)["fault"]
            self.assertIs(shows_fault(HASTY, load, 0, ("fault", course)), fault)
            self.assertIs(shows_fault(HASTY, load, 3, ("fault", course + (("lost",),))), False)

    def test_by_the_play(self):
        roll = dice(62)
        seen = []
        for _ in range(600):
            turn = Turn(1, roll.randrange(2, 6), roll.randrange(1, 5), 2)
            load = Load([roll.randrange(1, 4) for _ in range(roll.randrange(1, 3))], roll.randrange(1, 4))
            course = random_course(roll, turn, load, 0.1)
            course = course[:roll.randrange(len(course) - 3, len(course) + 1)] if len(course) > 3 else course
            told = plain_play(turn, load, course)
            for losses in range(4):
                shown = told["fault"] and told["lost"] <= losses
                self.assertIs(shows_fault(turn=turn, load=load, losses=losses, paper=("fault", course)), shown)
                seen.append((shown, told["short"]))
        self.same(len(set(seen)), 4)

    def test_any_values(self):
        for load in (Load([2], 1), Load([1], 1)):
            for paper in NO_PAPERS:
                self.assertIs(shows_fault(HASTY, load, 3, paper), False)
        wrong = [("answered", 1, True), ("answered", 1), ("lost", 1), ["lost"], ("answered", 0, 1), ("answered", 1, 4)]
        course = fault_course(HASTY, Load([2], 1))
        for fate in wrong:
            self.assertIs(shows_fault(HASTY, Load([2], 1), 3, ("fault", (*course[:-1], fate))), False)

    def test_wrong_losses(self):
        for value in NO_INTEGERS + [-1, 4]:
            self.raises(BadPart("losses"), shows_fault, HASTY, Load([2], 1), value, None)

    def test_more_sendings_than_can_be_played(self):
        # A load of many parcels: a fault only in the last row.
        turn, load = Turn(50, 50, 10, 8), Load([600], 1)
        self.assertIs(shows_fault(turn, load, 0, ("fault", (("answered", 50, 50),) * 6000)), False)
        turn = Turn(1, 9, 2, 2)
        course = fault_course(turn, load)
        # What is played behind the fault does not matter, however long it goes on.
        slow = course + (("answered", 9, 9),) * 5400
        self.assertIs(shows_fault(turn, load, 0, ("fault", slow)), plain_play(turn, load, slow)["fault"])


class TimeTest(Case):
    def test_courses_of_the_library(self):
        roll = dice(63)
        looked = 0
        while looked < 150:
            least = roll.randrange(1, 6)
            most = roll.randrange(least, 8)
            turn = Turn(least, most, roll.randrange(1, 18), roll.randrange(2, 7))
            load = Load([roll.randrange(1, 5) for _ in range(roll.randrange(1, 4))], roll.randrange(1, 20))
            if not holds(turn, load):
                continue
            looked += 1
            losses, parcel = roll.randrange(4), roll.randrange(len(load))
            latest, earliest = latest_course(turn, load, losses), earliest_course(turn, load)
            late, early = taken_latest(turn, load, losses, parcel), taken_earliest(turn, load, parcel)
            self.assertIs(shows_time(turn, load, losses, parcel, ("latest", late, latest)), True)
            self.assertIs(shows_time(turn, load, losses, parcel, ("earliest", early, earliest)), True)
            for paper in (
                ("latest", late + 1, latest), ("latest", late - 1, latest), ("earliest", early + 1, earliest),
                ("earliest", late + 1, latest), ("soonest", late, latest), ("latest", late, list(latest)),
                ["latest", late, latest], ("latest", late, latest[:-1]), ("latest", late, latest + (("lost",),)),
                ("latest", str(late), latest), ("latest", late, latest, late), ("latest", None, latest),
                (Same(), late, latest), ("latest", Same(), latest), ("latest", late, Same()),
            ):
                self.assertIs(shows_time(turn, load, losses, parcel, paper), False)
            if losses:
                # With a loss less this is no latest moment, and the course has too many.
                self.assertIs(shows_time(turn, load, losses - 1, parcel, ("latest", late, latest)), False)

    def test_by_all_courses(self):
        for turn, rows, losses in ((CALM, [2], 1), (Turn(1, 2, 3, 2), [1, 1], 1), (Turn(2, 2, 3, 2), [2], 2)):
            load = Load(rows, 2)
            for course in list(all_courses(turn, load, losses)):
                told = plain_play(turn, load, course)
                for parcel in range(len(load)):
                    moment = told["taken"][parcel][0]
                    late = taken_latest(turn, load, losses, parcel)
                    early = taken_earliest(turn, load, parcel)
                    for paper, shows in (
                        (("latest", moment, course), moment == late), (("latest", late, course), moment == late),
                        (("earliest", moment, course), moment == early), (("earliest", early, course), moment == early),
                    ):
                        self.assertIs(shows_time(turn, load, losses, parcel, paper), shows)

    def test_too_many_losses(self):
        # The last parcel is taken at the earliest; then its answer is lost.
        load = Load([1], 1)
        for lost in range(4):
            course = (("come", 1),) * lost + (("answered", 1, 1),)
            for losses in range(4):
                self.assertIs(shows_time(turn=CALM, load=load, losses=losses, parcel=0, paper=("earliest", 1, course)),
                              lost <= losses)

    def test_a_moment_is_an_integer(self):
        # The earliest moment is 1, which True equals.
        course = (("answered", 1, 1),)
        self.assertIs(shows_time(CALM, Load([1], 1), 0, 0, ("earliest", 1, course)), True)
        self.assertIs(shows_time(CALM, Load([1], 1), 0, 0, ("earliest", True, course)), False)
        self.assertIs(shows_time(CALM, Load([1], 1), 0, 0, ("earliest", 1, (("answered", True, 1),))), False)

    def test_any_values(self):
        for paper in NO_PAPERS:
            self.assertIs(shows_time(CALM, Load([1], 1), 3, 0, paper), False)

    def test_more_sendings_than_can_be_played(self):
        turn, load = Turn(50, 50, 10, 8), Load([600], 1)
        course = (("answered", 50, 50),) * 6000
        self.assertIs(shows_time(turn, load, 0, 599, ("latest", 1199 * 50, course)), True)
        self.assertIs(shows_time(turn, load, 0, 599, ("latest", 1199 * 50, course[:-1])), False)

    def test_errors(self):
        load = Load([2], 1)
        for value in NO_INTEGERS + [-1, 4]:
            self.raises(BadPart("losses"), shows_time, HASTY, load, value, value, None)
        for value in NO_INTEGERS + [-1, 2]:
            self.raises(BadIndex(value), shows_time, HASTY, load, 0, value, None)
        self.raises(Unsafe(("copy", 0)), shows_time, HASTY, load, 0, 1, None)
        self.same(len(fates_of(CALM)), 7)
