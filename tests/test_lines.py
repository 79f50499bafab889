"""[37], [38]: lines, their loads, roads and changes."""

from tests.help import NO_INTEGERS, NO_LISTS, Case, Prickly, Same, dice
from tests.plainlines import LINE, SETTINGS, line_with, plain_lengths, plain_pieces, plain_wins, random_line
from wholeline.boxes import Road
from wholeline.errors import BadBox, BadChange, BadPart, BadSteps, NoWay
from wholeline.letters import Mail
from wholeline.lines import Line, load_of, race_of, road_on, turn_on
from wholeline.races import Race
from wholeline.steps import Room, Steps
from wholeline.turns import Load, Turn
from wholeline.ways import Way

WORDS = list(SETTINGS)
RANGES = {
    "turn": (1, 200), "numbers": (2, 8), "head": (1, 8), "places": (0, 4), "cost": (2, 9), "period": (1, 200),
    "quiet": (1, 500), "silent": (0, 3), "losses": (1, 3),
}
# Nothing is asked of the turn of this one.
PLAIN = line_with(ways=[Way(0, 1, 2), Way(1, 1, 3), Way(None, 4, 5, [(0, 0, 1, 1)])])


class LineTest(Case):
    def test_attributes(self):
        for word, value in SETTINGS.items():
            self.assertEqual(getattr(LINE, word), value)
        line = Line(SETTINGS["mail"], list(SETTINGS["ways"]), [5, 8], **{
            word: value for word, value in SETTINGS.items() if word not in ("mail", "ways", "widths")})
        self.equal_ones(line, LINE)
        self.same((line.widths, type(line.ways)), ((5, 8), tuple))

    def test_least_and_greatest_settings(self):
        for word, (low, high) in RANGES.items():
            for value in (low, high):
                self.same(getattr(PLAIN.with_setting(word, value), word), value)
            for value in [low - 1, high + 1, -10 ** 15, 10 ** 15, *NO_INTEGERS, Same()]:
                self.raises(BadPart(word), PLAIN.with_setting, word, value)

    def test_ways_and_widths(self):
        way = Way(0, 1, 1)
        for many in (1, 4):
            self.same(len(line_with(ways=[way] * many).ways), many)
        for value in NO_LISTS + [[], (), [way] * 5, [way, None], [None], [Prickly()], [Same()]]:
            self.raises(BadPart("ways"), line_with, ways=value)
        for value in ([1], [100], list(range(93, 101)), (1, 2, 100)):
            self.same(line_with(widths=value).widths, tuple(value))
        for value in NO_LISTS + [[], (), list(range(1, 10)), [0], [101], [0, 1], [5, 5], [6, 5], [1, 3, 2], [True, 2],
                                 [1, None], ["1"], [Prickly()], [1, Same()]]:
            self.raises(BadPart("widths"), line_with, widths=value)

    def test_other_kinds(self):
        for value in NO_INTEGERS + [[[((), 1)]], Mail, Same(), LINE]:
            self.raises(BadPart("mail"), line_with, mail=value)
        for value in NO_INTEGERS + [10, Room, Same(), Steps([1])]:
            self.raises(BadPart("room"), line_with, room=value)

    def test_the_first_wrong_one_is_told(self):
        wrong = {word: None for word in WORDS}
        for at, word in enumerate(WORDS):
            told = {**wrong, **{other: SETTINGS[other] for other in WORDS[:at]}}
            self.raises(BadPart(word), Line, **told)

    def test_the_turn_of_ways_with_boxes(self):
        box = (0, 1, 5, 5)
        for most in (1, 7, 50):
            ways = [Way(3, 1, most, [box])]
            self.same(line_with(ways=ways, turn=2 * most).turn, 2 * most)
            if most > 1:
                self.raises(BadPart("turn"), line_with, ways=ways, turn=2 * most - 1)
        # A way without a box, or one that is not planned, asks nothing of it.
        for ways in ([Way(3, 1, 50)], [Way(None, 1, 50, [box])], [Way(0, 1, 1, [box]), Way(0, 1, 50)]):
            self.same(line_with(ways=ways, turn=2).turn, 2)
        self.raises(BadPart("turn"), line_with, ways=[Way(0, 1, 1), Way(0, 1, 2, [box])], turn=3)
        # This comes behind all others.
        self.raises(BadPart("losses"), line_with, ways=[Way(0, 1, 2, [box])], turn=3, losses=0)

    def test_equal(self):
        others = {
            "mail": Mail([[((), 5)]]), "ways": [Way(0, 1, 2)], "widths": [5], "turn": 13, "numbers": 3,
            "room": Room(9, Steps([4, 8])), "head": 3, "places": 2, "cost": 4, "period": 6, "quiet": 21, "silent": 0,
            "losses": 2,
        }
        self.assertEqual(list(others), WORDS)
        self.equal_ones(line_with(), LINE)
        for word, value in others.items():
            self.unlike_ones(line_with(**{word: value}), LINE)
        self.unlike_others(LINE)
        self.not_iterated(LINE)

    def test_lists_are_not_kept(self):
        ways, widths, rows = [Way(0, 1, 2), Way(1, 1, 2)], [3, 4], [[((), 5)]]
        line = line_with(mail=Mail(rows), ways=ways, widths=widths)
        ways.pop()
        widths.append(9)
        rows[0].append(((), 60))
        rows.append([((), 60)])
        self.same((len(line.ways), line.widths, len(line.mail)), (2, (3, 4), 1))
        told = load_of(line, 3)
        self.same(told.rows, load_of(line, 3).rows)


class WithSettingTest(Case):
    def test_each_setting(self):
        for word in WORDS:
            self.equal_ones(LINE.with_setting(word, SETTINGS[word]), LINE)
            for other in WORDS:
                self.assertEqual(getattr(LINE.with_setting(word=word, value=SETTINGS[word]), other), SETTINGS[other])
        self.same(LINE.with_setting("numbers", 5).numbers, 5)
        self.same(LINE.numbers, 2)
        self.same(LINE.with_setting("widths", [7]).widths, (7,))

    def test_errors(self):
        for word in NO_INTEGERS + ["bound", "begin", "size", "line", "steps", "Turn", 0, Same(), ("turn",)]:
            self.raises(BadPart(word), LINE.with_setting, word, None)
        for word in WORDS:
            self.raises(BadPart(word), LINE.with_setting, word, None)
        # At least twice the most delay of the way with a box, 2.
        self.same(LINE.with_setting("turn", 4).turn, 4)
        self.raises(BadPart("turn"), LINE.with_setting, "turn", 3)
        self.raises(BadPart("turn"), line_with(turn=4).with_setting, "ways", [Way(0, 1, 3, [(0, 0, 1, 1)])])


class ChangedTest(Case):
    def test_numbers(self):
        for word, value in (("turn", 4), ("numbers", 8), ("period", 200), ("head", 1)):
            self.equal_ones(LINE.changed((word, value)), line_with(**{word: value}))
        self.equal_ones(LINE.changed(change=("room", 60)), line_with(room=Room(60, Steps([4, 8]))))
        self.equal_ones(LINE, line_with())

    def test_wrong_numbers(self):
        for word in ("turn", "numbers", "period", "head"):
            low, high = RANGES[word]
            for value in (low - 1, high + 1, 10 ** 15):
                self.raises(BadPart(word), LINE.changed, (word, value))
        for value in (0, 61, -1):
            self.raises(BadPart("size"), LINE.changed, ("room", value))
        self.raises(BadPart("turn"), LINE.changed, ("turn", 3))

    def test_bounds(self):
        def bounds(old, new):
            return line_with(room=Room(10, Steps(old))).changed(("bound", new)).room.steps.bounds

        self.same(bounds([4, 8], 5), (5, 8))
        self.same(bounds([4, 8], 1), (1, 8))
        # In order; one less if it is another one of them; the same one.
        self.same(bounds([4, 8], 60), (8, 60))
        self.same(bounds([2, 4, 8], 6), (4, 6, 8))
        self.same(bounds([4, 8], 8), (8,))
        self.same(bounds([1, 2, 3, 4], 3), (2, 3, 4))
        self.same(bounds([4, 8], 4), (4, 8))
        # The only bound.
        self.same(bounds([4], 9), (9,))
        self.same(bounds([4], 4), (4,))
        self.same(LINE.changed(("bound", 5)).room.size, 10)

    def test_wrong_bounds(self):
        for old, new, index in (([4, 8], 0, 0), ([4, 8], -5, 0), ([4, 8], 61, 1), ([4], 61, 0), ([1, 2, 3, 4], 99, 3)):
            self.raises(BadSteps(index), line_with(room=Room(10, Steps(old))).changed, ("bound", new))

    def test_begins(self):
        line = LINE.changed(("begin", 0, None))
        self.equal_ones(line, line_with(ways=[SETTINGS["ways"][0].begun_at(None), SETTINGS["ways"][1]]))
        self.equal_ones(line.changed(("begin", 0, 0)), LINE)
        self.same(LINE.changed(("begin", 1, 1000)).ways[1].begin, 1000)
        for value in (-1, 1001):
            self.raises(BadPart("begin"), LINE.changed, ("begin", 1, value))
        # A way that is not planned may ask for a greater turn when it is.
        slow = line_with(turn=4, ways=[Way(0, 1, 2), Way(None, 1, 3, [(0, 0, 1, 1)])])
        self.raises(BadPart("turn"), slow.changed, ("begin", 1, 0))
        self.same(slow.changed(("turn", 6)).changed(("begin", 1, 0)).turn, 6)

    def test_no_changes(self):
        for value in NO_INTEGERS + [
            (), ("turn",), ("turn", 4, 4), ["turn", 4], ("turn", None), ("turn", True), ("turn", "4"), ("turn", Prickly()),
            ("quiet", 4), ("size", 4), ("losses", 1), ("silent", 0), ("widths", 4), (None, 4), (Prickly(), 4), (Same(), 4),
            ("bound", (4,)), ("begin", 0), ("begin", 2, 0), ("begin", -1, 0), ("begin", True, 0), ("begin", None, 0),
            ("begin", 0, True), ("begin", 0, "0"), ("begin", 0, ()), ("begin", 0, 0, 0), ["begin", 0, 0], ("begin", Same(), 0),
            ("begin", 0, Prickly()), ("turn", Same()), ("Turn", 4), "turn", ("turn", 4.0),
        ]:
            self.raises(BadChange(value), LINE.changed, value)

    def test_nothing_changes(self):
        before = line_with()
        for change in (("turn", 20), ("bound", 60), ("begin", 1, None)):
            LINE.changed(change)
        self.equal_ones(LINE, before)


class LoadTest(Case):
    def test_the_line(self):
        # Lengths 9, 5 and 4: a book of one place holds bob behind the first letter.
        self.same(load_of(LINE, 5).rows, (5, 2))
        self.equal_ones(load_of(line=LINE, width=5), Load((5, 2), 20))
        self.assertEqual(plain_lengths(LINE), [9, 5, 4])
        self.same(load_of(LINE, 8).rows, (3, 1))

    def test_widths_beside_the_head_units(self):
        empty = Mail([[((), 0), ((), 0)], [((), 0)]])
        line = line_with(mail=empty, head=5, widths=[4, 5, 6])
        self.same([load_of(line, 4), load_of(line, 5).rows, load_of(line, 6).rows], [None, (2, 1), (2, 1)])
        line = line_with(mail=Mail([[((), 0), ((), 1)]]), head=5, widths=[4, 5, 6])
        self.same([load_of(line, 4), load_of(line, 5), load_of(line, 6).rows], [None, None, (2,)])

    def test_a_stuck_letter(self):
        line = line_with(mail=Mail([[((), 10)], [((), 11)]]), widths=[5, 50])
        self.same([load_of(line, 5), load_of(line, 50)], [None, None])
        self.same(load_of(line.changed(("room", 11)), 50).rows, (2, 2))

    def test_against_all_cuts(self):
        roll = dice(421)
        some = none = 0
        for _ in range(250):
            line = random_line(roll)
            for width in line.widths:
                pieces = plain_pieces(line, width)
                load = load_of(line, width)
                if None in pieces or width < line.head:
                    self.assertIsNone(load)
                    none += 1
                else:
                    rows, first = [], 0
                    for row in line.mail.rows_told():
                        rows.append(sum(pieces[first:first + len(row)]))
                        first += len(row)
                    self.same((load.rows, load.quiet), (tuple(rows), line.quiet))
                    some += 1
        self.assertGreater(min(some, none), 50)

    def test_a_great_line(self):
        heads = ("abcdefgh", "bcdefghi", "cdefghij", "defghijk")
        line = line_with(mail=Mail([[(heads, 60)] * 6] * 3), places=0, cost=9, room=Room(60, Steps([1])), widths=[9, 100], head=8)
        self.same(load_of(line, 9), None)
        mail = Mail([[(heads, 24)] * 6] * 3)
        self.same(load_of(line.with_setting("mail", mail), 9).rows, (360, 360, 360))

    def test_wrong_widths(self):
        for value in NO_INTEGERS + [4, 6, 0, -1, 10 ** 10, Same(), 5.0]:
            self.raises(BadPart("widths"), load_of, LINE, value)
        self.raises(BadPart("widths"), load_of, line_with(widths=[1, 8]), True)


class WaysTest(Case):
    def test_the_line(self):
        self.equal_ones(race_of(LINE), Race(SETTINGS["ways"], 1))
        self.equal_ones(turn_on(line=LINE, way=1), Turn(1, 3, 12, 2))
        self.equal_ones(road_on(line=LINE, way=0), Road(SETTINGS["ways"][0], 4, 12, 1, (5, 2), 20, 5))
        self.assertIsNone(road_on(LINE, 1))

    def test_roads(self):
        box = (0, 1, 40, 60)
        ways = [Way(0, 1, 2, [box]), Way(None, 1, 2, [box]), Way(9, 1, 2, [box]), Way(0, 1, 2)]
        line = line_with(ways=ways, silent=0)
        # Without a box, not planned, or too late to win: no road.
        self.same([road_on(line, way) is None for way in range(4)], [False, True, True, True])
        self.same([road_on(line.with_setting("silent", 2), way) is None for way in range(4)], [False, True, False, True])
        # No load with the least width, though with another one.
        self.assertIsNone(road_on(line_with(widths=[1, 8]), 0))
        self.assertIsNone(road_on(line_with(room=Room(3, Steps([4]))), 0))

    def test_last_wins(self):
        roll = dice(422)
        roads = 0
        for _ in range(200):
            line = random_line(roll)
            wins = plain_wins(line)
            for way, told in enumerate(line.ways):
                road = road_on(line, way)
                load = load_of(line, line.widths[0])
                self.assertIs(road is None, not told.boxes or way not in wins or load is None)
                if road is not None:
                    self.same((road.last, road.rows, road.way), (max(wins[way]), load.rows, road.way))
                    self.same((road.turn, road.losses, road.quiet, road.period),
                              (line.turn, line.losses, line.quiet, line.period))
                    roads += 1
        self.assertGreater(roads, 50)

    def test_wrong_ways(self):
        for value in NO_INTEGERS + [-1, 2, 10 ** 10, Same()]:
            self.raises(NoWay(value), turn_on, LINE, value)
            self.raises(NoWay(value), road_on, LINE, value)

    def test_other_errors_of_the_parts(self):
        self.raises(BadBox(0), Way, 0, 1, 2, [(0, 3, 1, 1)])
