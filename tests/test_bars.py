"""[39]: bars, by their words and by all runs of small lines."""

from tests.help import Case, dice
from tests.plainfaults import FaultSearch
from tests.plainlines import LINE, line_with, plain_lengths, plain_pieces, plain_wins, random_line
from tests.plainnets import TooManyRuns, all_runs
from tests.plainroads import RoadSearch
from wholeline.bars import bars, first_bar
from wholeline.boxes import Road
from wholeline.letters import Mail
from wholeline.lines import load_of, turn_on
from wholeline.monitors import is_clean
from wholeline.numbers import holds
from wholeline.steps import Room, Steps
from wholeline.turns import Load
from wholeline.ways import Way

QUICK = (0, 1, 1, 1)


def plain_bars(line, has_fault):
    """All bars by the words of [39]; has_fault tells of a way and a load whether a course is faulty."""
    told = []
    if sum(way.begin is not None for way in line.ways) <= line.silent:
        told.append(("ways",))
    least = line.widths[0]
    lengths = plain_lengths(line)
    if least < line.head:
        told.append(("width", 0))
    elif least == line.head:
        told += [("width", index) for index, length in enumerate(lengths) if length > 0][:1]
    pieces = plain_pieces(line, least)
    told += [("room", index) for index, many in enumerate(pieces) if many is None][:1]
    if None in pieces or least < line.head:
        return told
    rows, first = [], 0
    for row in line.mail.rows_told():
        rows.append(sum(pieces[first:first + len(row)]))
        first += len(row)
    wins = plain_wins(line)
    told += [("numbers", way) for way in sorted(wins) if has_fault(turn_on(line, way), Load(rows, line.quiet))]
    for way in sorted(wins):
        if line.ways[way].boxes:
            road = Road(line.ways[way], max(wins[way]), line.turn, line.losses, rows, line.quiet, line.period)
            gap = max(told_gap for _, told_gap in RoadSearch(road).all_gaps())
            weak = [index for index, box in enumerate(line.ways[way].boxes) if gap > box[2] - (box[1] - box[0])]
            told += [("boxes", way, index) for index in weak[:1]]
    return told


class BarsTest(Case):
    def test_no_bar(self):
        self.same([bars(LINE), first_bar(line=LINE)], [[], None])

    def test_each_word_alone(self):
        cases = {
            ("ways",): line_with(silent=2),
            ("width", 0): line_with(mail=Mail([[((), 0)]]), widths=[1, 8]),
            ("room", 1): line_with(mail=Mail([[((), 9), ((), 10)], [((), 12)]])),
            ("numbers", 1): line_with(turn=4),
            ("boxes", 0, 0): line_with(ways=[Way(0, 1, 2, [(0, 1, 17, 60)]), Way(1, 1, 3)]),
        }
        for bar, line in cases.items():
            self.same(bars(line=line), [bar])
            self.same(first_bar(line), bar)

    def test_several_in_their_order(self):
        line = line_with(silent=3, widths=[1], room=Room(3, Steps([4])))
        self.same(bars(line), [("ways",), ("width", 0), ("room", 0)])
        # All numbers come ahead of all boxes; each box bar names the first box.
        ways = [Way(0, 1, 3, [(0, 0, 99, 99), (0, 0, 1, 1), (0, 0, 1, 1)]), Way(0, 1, 50), Way(0, 1, 2, [QUICK]), Way(0, 1, 50)]
        line = line_with(ways=ways, turn=6, silent=3, mail=Mail([[((), 9)], [((), 9)]]))
        self.same(bars(line), [("numbers", 1), ("numbers", 3), ("boxes", 0, 1), ("boxes", 2, 0)])
        self.same(first_bar(line), ("numbers", 1))
        every = line.with_setting("silent", 3).with_setting("ways", ways[:3])
        self.same(bars(every), [("ways",), ("numbers", 1), ("boxes", 0, 1), ("boxes", 2, 0)])

    def test_ways(self):
        way = Way(0, 1, 1)
        for planned in range(5):
            for silent in range(4):
                ways = [way] * planned + [way.begun_at(None)] * (4 - planned)
                self.assertIs(("ways",) in bars(line_with(ways=ways, silent=silent)), planned <= silent)

    def test_width(self):
        mail = Mail([[((), 0), ((), 0)], [(("ann",), 0), ((), 1)]])
        line = line_with(mail=mail, head=5, widths=[5, 9])
        # The first letter with a length above 0; a cap of 0 makes it stuck, too.
        self.same(bars(line), [("width", 2), ("room", 2)])
        self.same(bars(line.with_setting("widths", [4])), [("width", 0), ("room", 2)])
        self.same(bars(line.with_setting("widths", [6])), [])
        empty = line.with_setting("mail", Mail([[((), 0), ((), 0)]]))
        self.same([bars(empty), bars(empty.with_setting("widths", [4, 9]))], [[], [("width", 0)]])

    def test_numbers_and_boxes_only_of_ways_that_can_win(self):
        ways = [Way(0, 1, 1), Way(2, 1, 50, [QUICK]), Way(3, 1, 50), Way(None, 1, 50, [QUICK])]
        line = line_with(ways=ways, turn=100, silent=0)
        self.same(bars(line), [])
        self.same(bars(line.with_setting("silent", 1)), [("boxes", 1, 0)])
        plain = line_with(ways=[Way(0, 1, 1), Way(2, 1, 50)], turn=2, silent=0)
        self.same([bars(plain), bars(plain.with_setting("silent", 1))], [[], [("numbers", 1)]])

    def test_the_slack_at_its_edge(self):
        # One row of two parcels: 2 * 2 + 12 is the row gap, and as great as the race gap, 4 + 12.
        for keep, barred in ((16, True), (17, False)):
            line = line_with(mail=Mail([[((), 6)]]), ways=[Way(0, 1, 2, [(0, 1, keep, keep)])], silent=0)
            self.same(load_of(line, 5).rows, (2,))
            self.same(bars(line), [("boxes", 0, 0)] if barred else [])

    def test_by_the_words(self):
        roll = dice(431)
        words = {}
        for _ in range(700):
            line = random_line(roll)
            told = bars(line)
            self.same(told, plain_bars(line, lambda turn, load: not holds(turn, load)))
            self.same(first_bar(line), told[0] if told else None)
            for bar in told or [("none",)]:
                words[bar[0]] = words.get(bar[0], 0) + 1
        self.assertEqual(set(words), {"ways", "width", "room", "numbers", "boxes", "none"})
        self.assertGreater(min(words.values()), 5)

    def test_numbers_by_all_courses(self):
        roll = dice(432)
        seen = set()
        for _ in range(60):
            ways = [Way(0, least, roll.randrange(least, 4)) for least in (roll.randrange(1, 3), 1)]
            mail = Mail([[((), roll.randrange(1, 5))] for _ in range(roll.randrange(1, 3))])
            line = line_with(mail=mail, ways=ways, widths=[3], turn=roll.randrange(1, 5), numbers=roll.randrange(2, 4),
                             quiet=roll.randrange(1, 6), room=Room(5, Steps([1])))
            told = plain_bars(line, lambda turn, load: FaultSearch(turn, load).has_fault())
            self.same(bars(line), told)
            seen.add(len(told))
        self.assertEqual(seen, {0, 1, 2})


class AllRunsTest(Case):
    """[3] (g): a line has no bar exactly if each run takes each parcel once, in order."""

    def check(self, lines):
        """How many of some lines have a bar, and how many have none, of those whose runs are few."""
        told = {True: 0, False: 0}
        for line in lines:
            try:
                unclean = any(not is_clean(run) for run in all_runs(line))
            except TooManyRuns:
                continue
            self.assertIs(unclean, first_bar(line) is not None, bars(line))
            told[unclean] += 1
        return told[True], told[False]

    def test_lines_with_boxes(self):
        roll = dice(433)
        lines = []
        for many in ([1], [2], [1, 1]) * 16:
            least = roll.randrange(1, 3)
            near = roll.randrange(2)
            turn = 2 * least + roll.randrange(3)
            keep = roll.randrange(2 * least + turn - 1, 2 * least + turn + 6)
            far = roll.choice([near, near, least])
            way = Way(0, least, least, [(near, far, keep, keep)])
            lines.append(line_with(
                mail=Mail([[((), 0)] * row for row in many]), ways=[way], widths=[3], turn=turn, silent=0,
                quiet=roll.randrange(1, 9), period=roll.randrange(2, 6)))
        barred, free = self.check(lines)
        self.assertGreater(min(barred, free), 8)

    def test_lines_with_short_turns(self):
        lines = []
        for many in ([2], [3], [1, 1], [2, 1]):
            for least, most, turn in ((1, 1, 1), (1, 2, 2), (1, 2, 3), (2, 3, 3)):
                mail = Mail([[((), 0)] * row for row in many])
                lines.append(line_with(mail=mail, ways=[Way(0, least, most)], widths=[3], silent=0, turn=turn, quiet=1))
        barred, free = self.check(lines)
        self.assertGreater(min(barred, free), 1)

    def test_lines_of_two_ways(self):
        mail = Mail([[((), 0), ((), 0)]])
        box = (0, 0, 7, 7)
        for silent, begin, barred in ((0, 0, 0), (1, 0, 1), (0, 9, 0), (1, 3, 1)):
            ways = [Way(0, 1, 1), Way(begin, 2, 2, [box])]
            line = line_with(mail=mail, ways=ways, widths=[3], turn=4, silent=silent)
            self.same(self.check([line]), (barred, 1 - barred))
        self.same(self.check([line_with(mail=mail, ways=[Way(0, 1, 1)], widths=[3], turn=2, silent=1)]), (1, 0))
