"""[40]: papers of bars."""

from tests.help import NO_INTEGERS, Case, Prickly, Same, dice
from tests.plainfates import fate_of_course, fate_of_log
from tests.plainlines import LINE, hasty_line, line_with, plain_lengths, random_line
from wholeline.barpapers import bar_paper, shown_bar
from wholeline.bars import bars, first_bar
from wholeline.boxpapers import forgetting_paper
from wholeline.errors import NoBar, Stuck
from wholeline.faultruns import fault_course
from wholeline.letters import Mail
from wholeline.lines import load_of, race_of, road_on, turn_on
from wholeline.monitors import flaw
from wholeline.nets import Fate, run_line
from wholeline.races import win_run
from wholeline.roompapers import room_paper
from wholeline.steps import Room, Steps
from wholeline.ways import Way

WAYS = line_with(silent=2)
WIDTH = line_with(mail=Mail([[((), 0), ((), 3)], [((), 0)]]), head=5, widths=[5, 9], room=Room(2, Steps([1])))
NARROW = WIDTH.with_setting("widths", [4, 9])
ROOM = line_with(mail=Mail([[((), 9), ((), 10)], [((), 12)]]))
NUMBERS = line_with(turn=4)
BOXES = line_with(ways=[Way(0, 1, 2, [(0, 1, 60, 60), (0, 1, 17, 60)]), Way(1, 1, 3)])
EVERY = line_with(
    ways=[Way(0, 1, 3, [(0, 0, 99, 99), (0, 0, 5, 6)]), Way(0, 1, 50), Way(0, 1, 2, [(0, 1, 1, 1)])], turn=6, silent=3,
    mail=Mail([[((), 9)], [((), 9)]]))


def papers_of(line):
    """A paper for each bar of a line."""
    told = []
    race = race_of(line)
    for bar in bars(line):
        if bar[0] == "ways":
            told.append(("ways", (None,) * len(line.ways)))
        elif bar[0] == "width":
            told.append(bar)
        elif bar[0] == "room":
            cap = max(0, line.widths[0] - line.head)
            told.append((*bar, room_paper(line.room, cap, plain_lengths(line)[bar[1]])))
        elif bar[0] == "numbers":
            at = race.ways[bar[1]].window()[0]
            course = fault_course(turn_on(line, bar[1]), load_of(line, line.widths[0]))
            told.append((*bar, at, win_run(race, bar[1], at), course))
        else:
            forgetting = forgetting_paper(road_on(line, bar[1]))
            told.append(("boxes", bar[1], win_run(race, bar[1], forgetting[3][0][3]), forgetting))
    return told


def led(line, paper):
    """The flaw of the run that a paper shows; where a letter is stuck, that it is."""
    word = paper[0]
    fate = Fate(line.widths[0], (None,) * len(line.ways))
    if word == "ways":
        fate = Fate(line.widths[0], paper[1])
    elif word == "numbers":
        fate = fate_of_course(line, paper[1], paper[3], paper[4])
    elif word == "boxes":
        fate = fate_of_log(line, paper[1], paper[2], paper[3][1], paper[3][3])
    elif race_of(line).winners():
        way = race_of(line).winners()[0]
        fate = Fate(line.widths[0], win_run(race_of(line), way, race_of(line).ways[way].window()[0]))
    try:
        return flaw(run_line(line, fate))
    except Stuck as stuck:
        return "stuck", stuck.letter


class PaperTest(Case):
    def test_of_the_first_bar(self):
        for line in (WAYS, WIDTH, NARROW, ROOM, NUMBERS, BOXES, EVERY):
            paper = bar_paper(line=line)
            self.same(shown_bar(line=line, value=paper), first_bar(line))
            self.same(paper[0], first_bar(line)[0])
        self.same(bar_paper(ROOM), ("room", 1, ("stuck", 9)))
        self.same([bar_paper(WIDTH), bar_paper(NARROW)], [("width", 1), ("width", 0)])

    def test_no_bar(self):
        self.raises(NoBar(LINE), bar_paper, LINE)

    def test_of_each_bar(self):
        roll = dice(441)
        words = {}
        for many in range(200):
            line = hasty_line(roll) if many < 60 else random_line(roll, head=roll.choice([1, 2, 2, 3, 4, 5]))
            told = bars(line)
            if not told:
                with self.assertRaises(NoBar):
                    bar_paper(line)
                continue
            self.same(shown_bar(line, bar_paper(line)), told[0])
            for bar, paper in zip(told, papers_of(line)):
                self.same(shown_bar(line, paper), bar)
                self.assertIsNotNone(led(line, paper))
                words[bar[0]] = words.get(bar[0], 0) + 1
        self.assertGreater(min(words.values()), 3, words)
        self.assertEqual(len(words), 5)

    def test_no_paper_on_other_lines(self):
        papers = [bar_paper(line) for line in (WAYS, WIDTH, NARROW, ROOM, NUMBERS, BOXES)] + papers_of(EVERY)
        for paper in papers:
            self.assertIsNone(shown_bar(LINE, paper))


class WaysTest(Case):
    def test_any_run_without_an_answer(self):
        self.same(shown_bar(WAYS, ("ways", (None, None))), ("ways",))
        line = line_with(ways=[Way(0, 1, 1), Way(None, 1, 1)], silent=1)
        self.same(shown_bar(line, ("ways", (None, None))), ("ways",))
        for run in ((None, (1, 1)), ((1, 1), None), ((1, 2), None), (None,), (None, None, None), [None, None], None, (), Same()):
            self.assertIsNone(shown_bar(line, ("ways", run)))
        for value in (("ways",), ("ways", (None, None), 0), ["ways", (None, None)], ("way", (None, None))):
            self.assertIsNone(shown_bar(line, value))


class WidthTest(Case):
    def test_indexes(self):
        # Where it is as great as the head units, of a letter with a length above 0.
        self.same([shown_bar(WIDTH, ("width", index)) for index in range(3)], [None, ("width", 1), None])
        self.same([shown_bar(NARROW, ("width", index)) for index in range(3)], [("width", index) for index in range(3)])
        for index in NO_INTEGERS + [-1, 3, Same()]:
            self.assertIsNone(shown_bar(NARROW, ("width", index)))
        for value in (("width",), ("width", 0, 0), ["width", 0]):
            self.assertIsNone(shown_bar(NARROW, value))


class RoomTest(Case):
    def test_any_letter_that_is_stuck(self):
        self.same(shown_bar(ROOM, ("room", 1, ("stuck", 9))), ("room", 1))
        self.same(shown_bar(ROOM, ("room", 2, ("stuck", 9))), ("room", 2))
        self.same(shown_bar(ROOM, ("room", 2, ("stuck", 11))), ("room", 2))
        for paper in (
            ("room", 0, ("stuck", 9)), ("room", 0, ("stuck", 8)), ("room", 1, ("stuck", 8)), ("room", 1, ("stuck", 10)),
            ("room", 1, ("cut", (3, 3, 3), (0, 3, 6))), ("room", 1, None), ("room", 1, ["stuck", 9]), ("room", 1, ("stuck", True)),
            ("room", 1), ("room", 1, ("stuck", 9), 0), ("room", 3, ("stuck", 9)), ("room", -1, ("stuck", 9)),
            ("room", True, ("stuck", 9)), ("room", None, ("stuck", 9)), ("room", 1, Prickly()), ("room", Same(), ("stuck", 9)),
        ):
            self.assertIsNone(shown_bar(ROOM, paper))

    def test_a_paper_of_another_letter(self):
        line = line_with(mail=Mail([[((), 20), ((), 10)], [((), 9)]]))
        self.same(shown_bar(line, ("room", 0, ("stuck", 19))), ("room", 0))
        self.assertIsNone(shown_bar(line, ("room", 1, ("stuck", 19))))
        # A letter that goes has no such paper; a cut is none.
        goes = room_paper(line.room, 3, 9)
        self.same(goes[0], "cut")
        self.assertIsNone(shown_bar(line, ("room", 2, goes)))

    def test_a_cap_of_0(self):
        for line in (WIDTH, NARROW):
            self.same(shown_bar(line, ("room", 1, ("stuck", 0))), ("room", 1))
            self.assertIsNone(shown_bar(line, ("room", 0, ("stuck", 0))))


class NumbersTest(Case):
    def setUp(self):
        self.paper = bar_paper(NUMBERS)

    def bent(self, place, value):
        return self.paper[:place] + (value,) + self.paper[place + 1:]

    def test_the_paper(self):
        self.same(self.paper[:2], ("numbers", 1))
        self.same(shown_bar(NUMBERS, self.paper), ("numbers", 1))

    def test_other_runs_and_moments(self):
        # The way wins from 3 to 7; the course does not ask when.
        for at in range(3, 8):
            run = win_run(race_of(NUMBERS), 1, at)
            self.same(shown_bar(NUMBERS, ("numbers", 1, at, run, self.paper[4])), ("numbers", 1))
            for other in (at - 1, at + 1, True, None, str(at)):
                self.assertIsNone(shown_bar(NUMBERS, ("numbers", 1, other, run, self.paper[4])))
        self.assertIsNone(shown_bar(NUMBERS, self.bent(3, ((1, 1), None))))
        self.assertIsNone(shown_bar(NUMBERS, self.bent(3, (None, None))))
        self.assertIsNone(shown_bar(NUMBERS, self.bent(3, [None, (3, 3)])))
        # A way that wins, on which the load holds.
        self.assertIsNone(shown_bar(NUMBERS, ("numbers", 0, 2, ((1, 1), None), self.paper[4])))

    def test_ways(self):
        for way in NO_INTEGERS + [-1, 2, 0, Same()]:
            self.assertIsNone(shown_bar(NUMBERS, self.bent(1, way)))

    def test_courses(self):
        course = self.paper[4]
        for value in (None, (), list(course), course[:-1], course + (("answered", 1, 1),) * 30, (("lost",),), Same(), Prickly(),
                      course[:1] + (("answered", 4, 4),) + course[2:], (None,), ((("lost",)),)):
            self.assertIsNone(shown_bar(NUMBERS, self.bent(4, value)))

    def test_losses(self):
        # As many losses as the line has ahead of the fault, and one more.
        for losses in (1, 2, 3):
            line = NUMBERS.with_setting("losses", losses)
            for lost in range(5):
                course = (("lost",),) * lost + self.paper[4]
                want = ("numbers", 1) if lost <= losses else None
                self.same(shown_bar(line, ("numbers", 1, *self.paper[2:4], course)), want)
                self.same(shown_bar(line, ("numbers", 1, *self.paper[2:4], (("come", 1),) * lost + self.paper[4])) is None
                          and lost > losses, lost > losses)

    def test_other_forms(self):
        for value in (self.paper[:4], self.paper + (0,), list(self.paper), ("number", *self.paper[1:])):
            self.assertIsNone(shown_bar(NUMBERS, value))

    def test_no_load(self):
        # There is no such bar if a letter is stuck.
        line = NUMBERS.with_setting("room", Room(3, Steps([4])))
        self.assertIsNone(shown_bar(line, self.paper))
        self.assertIsNone(shown_bar(NUMBERS.with_setting("widths", [1, 8]), self.paper))


class BoxesTest(Case):
    def setUp(self):
        self.paper = bar_paper(BOXES)

    def test_the_paper(self):
        self.same((self.paper[:2], self.paper[3][:2]), (("boxes", 0), ("forgets", 1)))
        self.same(shown_bar(BOXES, self.paper), ("boxes", 0, 1))

    def test_the_index_of_the_paper(self):
        # Of two boxes that can forget, a paper for the second one is one, too.
        line = line_with(ways=[Way(0, 1, 2, [(0, 1, 17, 60), (0, 1, 17, 60)]), Way(1, 1, 3)])
        paper = bar_paper(line)
        self.same(shown_bar(line, paper), ("boxes", 0, 0))
        forgetting = ("forgets", 1, *paper[3][2:])
        self.same(shown_bar(line, (*paper[:3], forgetting)), ("boxes", 0, 1))
        self.assertIsNone(shown_bar(line, (*paper[:3], ("forgets", 2, *paper[3][2:]))))

    def test_the_run_wins_at_the_back_of_the_begin(self):
        at = self.paper[3][3][0][3]
        race = race_of(BOXES)
        for moment in range(2, 5):
            want = ("boxes", 0, 1) if moment == at else None
            self.same(shown_bar(BOXES, ("boxes", 0, win_run(race, 0, moment), self.paper[3])), want)
        for run in (None, (None, None), ((1, 1),), (None, (1, 1)), [(1, 1), None], Same(), Prickly()):
            self.assertIsNone(shown_bar(BOXES, ("boxes", 0, run, self.paper[3])))

    def test_ways_and_forms(self):
        for way in NO_INTEGERS + [-1, 1, 2, Same()]:
            self.assertIsNone(shown_bar(BOXES, ("boxes", way, *self.paper[2:])))
        for value in (self.paper[:3], self.paper + (0,), list(self.paper), ("box", *self.paper[1:]),
                      (*self.paper[:3], None), (*self.paper[:3], list(self.paper[3])), (*self.paper[:3], Prickly()),
                      (*self.paper[:3], ("forgets", 1, 0, ())), (*self.paper[:3], ("forgets", 0, *self.paper[3][2:]))):
            self.assertIsNone(shown_bar(BOXES, value))

    def test_a_way_that_cannot_win_or_has_no_load(self):
        slow = BOXES.with_setting("ways", [Way(90, 1, 2, BOXES.ways[0].boxes), Way(1, 1, 3)]).with_setting("silent", 0)
        self.assertIsNone(shown_bar(slow, self.paper))
        self.assertIsNone(shown_bar(BOXES.with_setting("widths", [1, 8]), self.paper))

    def test_log_bent_at_one_place(self):
        word, index, first, log = self.paper[3]
        for place, sending in enumerate(log):
            for at in range(4):
                for value in (None, -1, "parcel", 10 ** 6):
                    if value != sending[at]:
                        bent = log[:place] + (sending[:at] + (value,) + sending[at + 1:],) + log[place + 1:]
                        self.assertIsNone(shown_bar(BOXES, (*self.paper[:3], (word, index, first, bent))))


class AnyValueTest(Case):
    def test_any_values(self):
        for line in (LINE, WAYS, WIDTH, ROOM, NUMBERS, BOXES, EVERY):
            for value in NO_INTEGERS + [
                0, (Prickly(),), (Same(),), (Same(), 0), ("ways",), ("width",), ("room",), ("numbers",), ("boxes",),
                ("boxes", 0, None, None), ("numbers", 0, None, None, None), ("room", 0, None), ("none", 0), (None,) * 4,
                ("boxes", 0, 0, (Prickly(),) * 4), ("numbers", 0, Prickly(), Prickly(), Prickly()),
            ]:
                self.assertIsNone(shown_bar(line, value))

    def test_what_is_shown_is_so(self):
        roll = dice(442)
        shown = 0
        for _ in range(150):
            line = random_line(roll)
            for paper in papers_of(line):
                # The same paper for a line with one setting changed.
                word, value = roll.choice([
                    ("turn", line.turn + 9), ("numbers", 8), ("silent", 0), ("losses", 1), ("head", 1), ("quiet", 1),
                    ("room", Room(60, line.room.steps)), ("period", 1), ("widths", [99])])
                other = line.with_setting(word, value)
                bar = shown_bar(other, paper)
                if bar is not None:
                    self.assertIn(bar[:2], [told[:2] for told in bars(other)] + [("room", bar[-1]), ("width", bar[-1])])
                    self.assertTrue(bars(other))
                    self.assertIsNotNone(led(other, paper))
                    shown += 1
        self.assertGreater(shown, 30)
