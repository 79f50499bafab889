"""[42]: papers of the times of lines."""

from tests.help import NO_INTEGERS, Case, Prickly, Same, dice
from tests.plainfates import fate_of_course
from tests.plainlines import LINE, line_with
from tests.plainturns import random_course
from tests.test_linetimes import BARRED, free_lines
from wholeline.errors import BadPaper, Barred, TooMany
from wholeline.letters import Mail
from wholeline.lines import load_of, race_of, turn_on
from wholeline.linetimes import greatest_time, least_time, way_times
from wholeline.monitors import is_clean, told_times
from wholeline.nets import run_line
from wholeline.races import win_run
from wholeline.steps import Room, Steps
from wholeline.timepapers import line_time_paper, shown_time
from wholeline.turns import play
from wholeline.ways import Way


class PaperTest(Case):
    def test_the_line(self):
        for word, time in (("least", 35), ("greatest", 78)):
            paper = line_time_paper(line=LINE, word=word)
            self.same(shown_time(line=LINE, value=paper), time)
        self.same(line_time_paper(LINE, "least")[:2], (0, 2))
        self.same(line_time_paper(LINE, "greatest")[:2], (1, 7))

    def test_all_lines(self):
        for line in free_lines(461, 100):
            for word, time in (("least", least_time(line)), ("greatest", greatest_time(line))):
                paper = line_time_paper(line, word)
                self.same(shown_time(line, paper), time)
                self.check_led(line, paper, time)

    def check_led(self, line, paper, time):
        """A paper led as a run: the last letter is told at the time that it shows."""
        way, at, race, course = paper
        run = run_line(line, fate_of_course(line, way, race, course))
        self.assertTrue(is_clean(run))
        self.same((run.winner, run.start, told_times(run)[-1]), (way, at, time))

    def test_any_run_and_course(self):
        roll = dice(462)
        seen = set()
        for line in free_lines(463, 25):
            low, high = least_time(line), greatest_time(line)
            race = race_of(line)
            for way in race.winners():
                turn, load = turn_on(line, way), load_of(line, line.widths[0])
                for _ in range(8):
                    at = roll.randrange(race.ways[way].window()[0], race.last_win(way) + 1)
                    course = random_course(roll, turn, load)
                    told = play(turn, load, course)
                    value = (way, at, win_run(race, way, at), course)
                    if told.lost > line.losses:
                        self.assertIsNone(shown_time(line, value))
                        seen.add("lost")
                        continue
                    time = shown_time(line, value)
                    self.same(time, at + told.taken[-1][0])
                    self.assertTrue(low <= time <= high)
                    self.check_led(line, value, time)
                    seen.add("at the edge" if time in (low, high) else "between")
        self.assertEqual(seen, {"lost", "between", "at the edge"})

    def test_words(self):
        for word in NO_INTEGERS + ["latest", "Least", "least ", 0, Same(), b"least", ("least",)]:
            self.raises(BadPaper(word), line_time_paper, LINE, word)
            self.raises(BadPaper(word), line_time_paper, BARRED["ways"], word)
        for word, line in BARRED.items():
            self.raises(Barred(word), line_time_paper, line, "least")
            self.raises(Barred(word), line_time_paper, line, "greatest")
            self.raises(Barred(word), shown_time, line, None)

    def test_too_many_sendings(self):
        # 600 parcels, each sent so often that this makes more than 5000.
        mail = Mail([[((), 60)] * 6, [((), 60)] * 3])
        line = line_with(mail=mail, ways=[Way(0, 5, 5)], widths=[3], turn=1, numbers=8, room=Room(60, Steps([1])), silent=0)
        self.same(load_of(line, 3).rows, (360, 180))
        self.raises(TooMany(5000), line_time_paper, line, "greatest")
        self.raises(TooMany(5000), line_time_paper, line, "least")
        slow = line.with_setting("turn", 2)
        # 540 parcels with 5 sendings each, and one loss.
        for word in ("least", "greatest"):
            paper = line_time_paper(slow, word)
            self.same(len(paper[3]), 2700 + (word == "greatest"))
            self.assertIsInstance(shown_time(slow, paper), int)

    def test_of_two_ways_the_one_with_fewer_sendings(self):
        # 51 parcels, each sent 100 times on the one way, and 98 times on the other one, which begins so much later.
        line = line_with(mail=Mail([[((), 51)]]), ways=[Way(0, 50, 50), Way(103, 49, 49)], widths=[3], turn=1, numbers=8,
                         room=Room(60, Steps([1])))
        self.same([high for _, _, high in way_times(line)], [100 + 101 * 50 + 1] * 2)
        paper = line_time_paper(line, "greatest")
        self.same((paper[0], len(paper[3])), (1, 51 * 98 + 1))
        self.same(shown_time(line, paper), greatest_time(line))
        # The least time is that of both, or of the second way alone; the greatest one that of the second way.
        for begin, word, way in ((103, "least", 1), (102, "least", 1), (104, "greatest", 1)):
            other = line.with_setting("ways", [Way(0, 50, 50), Way(begin, 49, 49)])
            self.same(line_time_paper(other, word)[0], way)
        self.raises(TooMany(5000), line_time_paper, line.with_setting("ways", [Way(0, 50, 50), Way(102, 49, 49)]), "greatest")
        turned = line.with_setting("ways", [Way(103, 49, 49), Way(0, 50, 50)])
        self.same(line_time_paper(turned, "greatest")[0], 0)
        # The delays of the time that is asked for matter alone.
        slow = line.with_setting("ways", [Way(0, 50, 50), Way(103, 49, 50)])
        self.same((line_time_paper(slow, "least")[0], len(line_time_paper(slow, "least")[3])), (1, 51 * 98))
        wide = line.with_setting("ways", [Way(0, 40, 50), Way(103, 41, 49)])
        self.same((line_time_paper(wide, "greatest")[0], shown_time(wide, line_time_paper(wide, "greatest"))), (1, 5151))


class ShownTest(Case):
    def setUp(self):
        self.paper = line_time_paper(LINE, "greatest")

    def bent(self, place, value):
        return self.paper[:place] + (value,) + self.paper[place + 1:]

    def test_bent_at_one_place(self):
        course = self.paper[3]
        for place, values in (
            (0, NO_INTEGERS + [0, 2, -1, Same()]),
            (1, NO_INTEGERS + [6, 8, Same()]),
            (2, [None, (), (None, None), ((2, 2), (3, 3)), (None, (3, 2)), (None, (3, 3), None), [None, (3, 3)], Same(), Prickly()]),
            (3, [None, (), list(course), course[:-1], course + (("answered", 1, 1),), course[1:], (("lost",),) + course, Prickly(),
                 course[:-1] + (("answered", 4, 3),), course[:-1] + (("come", 3),), course[:-1] + (None,), Same()]),
        ):
            for value in values:
                told = shown_time(LINE, self.bent(place, value))
                if place == 3 and isinstance(value, tuple) and value == course[1:]:
                    # Without its loss it shows a time, too.
                    self.same(told, 78 - 12)
                else:
                    self.assertIsNone(told)

    def test_other_delays_show_other_times(self):
        course = self.paper[3]
        self.same(course[0], ("lost",))
        for at in range(1, len(course)):
            last = at == len(course) - 1
            for fate, time in ((("answered", 2, 3), 77), (("answered", 3, 1), 78 if last else 76)):
                self.same(shown_time(LINE, self.bent(3, course[:at] + (fate,) + course[at + 1:])), time)

    def test_a_time_that_is_neither(self):
        run = win_run(race_of(LINE), 1, 5)
        self.same(shown_time(LINE, (1, 5, run, self.paper[3])), 76)
        self.assertIsNone(shown_time(LINE, (1, 7, run, self.paper[3])))

    def test_losses(self):
        line = LINE.with_setting("losses", 2).with_setting("ways", [Way(0, 1, 2), Way(1, 1, 3)])
        for lost in range(4):
            paper = (*self.paper[:3], (("lost",),) * lost + self.paper[3][1:])
            self.same(shown_time(line, paper), 66 + 12 * lost if lost <= 2 else None)

    def test_any_values(self):
        for value in NO_INTEGERS + [0, self.paper[:3], self.paper + (0,), list(self.paper), (None,) * 4, (Prickly(),) * 4, Same(),
                                    (Same(),) * 4]:
            self.assertIsNone(shown_time(LINE, value))
