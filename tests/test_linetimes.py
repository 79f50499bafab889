"""[41]: the times of lines without a bar, and what is lost by not knowing the width."""

from tests.help import NO_INTEGERS, Case, Same, dice
from tests.plainlines import LINE, line_with, plain_pieces, plain_wins, random_line
from tests.plainnets import TooManyRuns, all_runs
from wholeline.bars import bars, first_bar
from wholeline.errors import Barred, NoWay
from wholeline.letters import Mail
from wholeline.linetimes import game_on, greatest_time, least_time, regrets, way_times
from wholeline.monitors import told_times
from wholeline.plans import told_plan
from wholeline.regret import regret
from wholeline.states import start
from wholeline.steps import Room, Steps
from wholeline.ways import Way
from wholeline.widths import Game, bases
from wholeline.widthtimes import greatest_times

BARRED = {
    "ways": line_with(silent=2), "width": line_with(mail=Mail([[((), 0)]]), widths=[1, 8]),
    "room": line_with(mail=Mail([[((), 10)]])), "numbers": line_with(turn=4),
    "boxes": line_with(ways=[Way(0, 1, 2, [(0, 1, 17, 60)]), Way(1, 1, 3)]),
}


def free_lines(seed, many):
    """Small lines without a bar."""
    roll = dice(seed)
    found = []
    while len(found) < many:
        ways = [Way(roll.randrange(6), 1, roll.randrange(1, 3)) for _ in range(roll.randrange(1, 4))]
        line = random_line(roll, ways=ways, turn=roll.randrange(4, 9), head=1)
        if first_bar(line) is None:
            found.append(line)
    return found


class TimesTest(Case):
    def test_the_line(self):
        # Seven parcels with the width 5; way 0 wins from 2 to 4, way 1 from 3 to 7; one quiet of 20.
        self.same(way_times(line=LINE), [(0, 2 + 13 + 20, 4 + 26 + 12 + 20), (1, 3 + 13 + 20, 7 + 39 + 12 + 20)])
        self.same([least_time(line=LINE), greatest_time(line=LINE)], [35, 78])

    def test_over_all_runs(self):
        roll = dice(451)
        looked = 0
        for many in ([1], [2], [1, 1]) * 9:
            ways = [Way(roll.randrange(3), 1, roll.randrange(1, 3)) for _ in range(roll.randrange(1, 3))]
            line = line_with(mail=Mail([[((), 0)] * row for row in many]), ways=ways, widths=[3], turn=roll.randrange(3, 6),
                             silent=roll.randrange(len(ways)), quiet=roll.randrange(1, 9), period=9)
            if bars(line):
                continue
            times = {}
            try:
                for run in all_runs(line, 2500):
                    times.setdefault(run.winner, set()).add(told_times(run)[-1])
            except TooManyRuns:
                continue
            self.same(way_times(line), [(way, min(times[way]), max(times[way])) for way in sorted(times)])
            self.same(least_time(line), min(min(told) for told in times.values()))
            self.same(greatest_time(line), max(max(told) for told in times.values()))
            looked += 1
        self.assertGreater(looked, 10)

    def test_by_the_words(self):
        for line in free_lines(452, 150):
            parcels = sum(plain_pieces(line, line.widths[0]))
            quiet = (len(line.mail.rows_told()) - 1) * line.quiet
            wins = plain_wins(line)
            told = [
                (way, min(wins[way]) + (2 * parcels - 1) * line.ways[way].least + quiet,
                 max(wins[way]) + (2 * parcels - 1) * line.ways[way].most + line.losses * line.turn + quiet)
                for way in sorted(wins)
            ]
            self.same(way_times(line), told)
            self.same(least_time(line), min(low for _, low, _ in told))
            self.same(greatest_time(line), max(high for _, _, high in told))

    def test_barred(self):
        for word, line in BARRED.items():
            self.assertEqual(bars(line)[0][0], word)
            for call in (way_times, least_time, greatest_time, regrets):
                self.raises(Barred(word), call, line)
            for way in (0, 5, None):
                self.raises(Barred(word), game_on, line, way)
        # The first bar is told.
        self.raises(Barred("width"), least_time, line_with(widths=[1, 8]))


class GameTest(Case):
    def test_the_line(self):
        self.equal_ones(game_on(line=LINE, way=1), Game((5, 8), (7, 4), least=1, most=3, turn=12, losses=1))
        self.same([game_on(LINE, 0).most, game_on(LINE, 0).least], [2, 1])
        self.same(regrets(line=LINE), [(way, regret(game_on(LINE, way), (0, 0))) for way in (0, 1)])

    def test_games_of_all_ways(self):
        line = line_with(ways=[Way(0, 1, 2), Way(90, 2, 3), Way(None, 1, 9)], silent=0)
        # A way that cannot win has a game, too, but no regret is told of it.
        self.same([game_on(line, way).most for way in range(3)], [2, 3, 9])
        self.same([way for way, _ in regrets(line)], [0])

    def test_counts(self):
        for line in free_lines(453, 60):
            for way in range(len(line.ways)):
                game = game_on(line, way)
                self.same(game.counts, tuple(sum(plain_pieces(line, width)) for width in line.widths))
                self.same((game.widths, game.turn, game.losses), (line.widths, line.turn, line.losses))

    def test_regrets(self):
        above = 0
        for line in free_lines(454, 40):
            for way, told in regrets(line):
                game = game_on(line, way)
                plan = told_plan(game, start(game), bases(game))
                times = greatest_times(game, start(game), plan)
                self.same(told, max(time - base for time, base in zip(times, bases(game))))
                above += told > 0
        self.assertGreater(above, 5)

    def test_eight_widths(self):
        mail = Mail([[(("abc", "defghijk"), 40)] * 6] * 3)
        line = line_with(mail=mail, widths=[3, 4, 5, 6, 8, 12, 20, 60], room=Room(60, Steps([1, 4, 16, 40])), losses=3, turn=12)
        self.same(bars(line.with_setting("ways", [Way(0, 1, 2), Way(1, 1, 3)])), [])
        told = regrets(line.with_setting("ways", [Way(0, 1, 2), Way(1, 1, 3)]))
        self.assertEqual([way for way, _ in told], [0, 1])
        self.assertTrue(all(late > 0 for _, late in told))

    def test_no_ways(self):
        for value in NO_INTEGERS + [-1, 2, 10 ** 9, Same()]:
            self.raises(NoWay(value), game_on, LINE, value)

    def test_new_lists(self):
        told = way_times(LINE)
        told.pop()
        regrets(LINE).pop()
        self.same([len(way_times(LINE)), len(regrets(LINE))], [2, 2])
