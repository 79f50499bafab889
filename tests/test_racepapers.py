"""[20]: papers of races; whatever is accepted is so."""

from itertools import combinations

from tests.help import NO_INTEGERS, NO_LISTS, Case, Prickly, dice
from tests.plainraces import SPECIAL, plain_outcome, plain_runs, small_races
from wholeline.errors import NoWay
from wholeline.racepapers import latest_paper, shows_latest, shows_never, shows_unanswered, shows_win, win_paper
from wholeline.races import Race
from wholeline.ways import Way

RACE = Race([Way(0, 1, 10), Way(3, 1, 2)], 1)
SMALL = SPECIAL + list(small_races(dice(21), 40))
BROKEN = [(), (None,) * 5, ((9, 9),), [(1, 1)], None, 0]


def lots_of(race):
    spots = range(len(race.ways))
    return [lot for many in range(len(race.ways) + 1) for lot in combinations(spots, many)]


class WinPaperTest(Case):
    def test_each_moment_has_a_paper(self):
        for race in SMALL:
            for way in range(len(race.ways)):
                for at in range(-1, 16):
                    word, told = win_paper(race=race, way=way, at=at)
                    if race.can_win(way, at):
                        self.assertEqual(word, "win")
                        self.assertIs(shows_win(race=race, way=way, at=at, run=told), True)
                        self.assertIs(shows_never(race, way, at, told), False)
                    else:
                        self.assertEqual(word, "never")
                        self.assertIs(shows_never(race=race, way=way, at=at, lot=told), True)
                        self.assertIs(shows_win(race, way, at, told), False)

    def test_no_way(self):
        for way in NO_INTEGERS + [-1, 2]:
            self.raises(NoWay(way), win_paper, RACE, way, None)
            self.assertIs(shows_win(RACE, way, 4, ((2, 2), None)), False)
            self.assertIs(shows_never(RACE, way, 50, ()), False)

    def test_what_is_accepted_is_so(self):
        for race in SMALL:
            found = list(plain_runs(race))
            told = [plain_outcome(race, run)[:2] for run in found]
            wins = set(told)
            for way in range(len(race.ways)):
                for at in range(-1, 14):
                    for run, outcome in zip(found, told):
                        self.assertIs(shows_win(race, way, at, run), outcome == (way, at))
                    for lot in lots_of(race):
                        if shows_never(race, way, at, lot):
                            self.assertNotIn((way, at), wins)
                    self.check_lots(race, way, at)

    def check_lots(self, race, way, at):
        window = race.ways[way].window()
        for lot in lots_of(race):
            if window is None or not window[0] <= at <= window[1]:
                shown = lot == ()
            else:
                hurried = race.hurried(way, at)
                shown = len(lot) == race.silent + 1 and all(other in hurried for other in lot)
            self.assertIs(shows_never(race, way, at, lot), shown)

    def test_examples(self):
        race = Race([Way(0, 1, 10), Way(3, 1, 2), Way(2, 1, 2)], 1)
        self.same(win_paper(race, 0, 9), ("never", (1, 2)))
        self.same(win_paper(race, 0, 21), ("never", ()))
        self.same(shows_never(race, 0, 9, (1, 2)), True)
        self.same(shows_never(race, 0, 9, [1, 2]), False)
        self.same(shows_never(race, 0, 9, (2, 1)), False)
        self.same(shows_never(race, 0, 9, (1, 1)), False)
        self.same(shows_never(race, 0, 9, (True, 2)), False)
        self.same(shows_never(race, 0, 9, ()), False)
        self.same(shows_never(race, 0, 21, (1, 2)), False)
        self.same(shows_never(race, 0, 21, []), False)
        self.same(shows_win(race, 0, 8, ((4, 4), None, (2, 2))), False)
        self.same(shows_win(race, 1, 7, ((4, 4), (2, 2), None)), True)
        self.same(shows_win(race, 1, 7, [(4, 4), (2, 2), None]), False)

    def test_any_values(self):
        for value in NO_INTEGERS + NO_LISTS + BROKEN + [(Prickly(), None), (None, Prickly())]:
            self.assertIs(shows_win(RACE, 0, 4, value), False)
            self.assertIs(shows_never(RACE, 0, 20, value), False)
        for at in NO_INTEGERS:
            self.assertIs(shows_win(RACE, 0, at, ((2, 2), None)), False)
            self.assertIs(shows_never(RACE, 0, at, ()), False)
            self.assertIs(shows_latest(RACE, at, ((10, 10), None), (0, 1)), False)


class LatestPaperTest(Case):
    def test_each_latest_end_has_a_paper(self):
        for race in SMALL:
            paper = latest_paper(race=race)
            if race.latest() is None:
                self.assertIs(paper, None)
            else:
                self.assertEqual([type(part) for part in paper], [tuple, tuple])
                run, lot = paper
                self.assertIs(shows_latest(race=race, at=race.latest(), run=run, lot=lot), True)
                self.assertEqual(plain_outcome(race, run)[1], race.latest())

    def test_what_is_accepted_is_so(self):
        for race in SMALL:
            found = list(plain_runs(race))
            moments = [plain_outcome(race, run)[1] for run in found]
            for at in range(-1, 14):
                for run, moment in zip(found, moments):
                    for lot in lots_of(race):
                        shown = moment == at and len(lot) == race.silent + 1 and all(
                            way in race.planned() and race.ways[way].window()[1] <= at for way in lot)
                        self.assertIs(shows_latest(race, at, run, lot), shown)
                        if shown:
                            self.assertEqual(at, race.latest())

    def test_refused(self):
        run, lot = ((10, 10), None), (0, 1)
        self.assertIs(shows_latest(RACE, 20, run, lot), True)
        for value in NO_INTEGERS + NO_LISTS + BROKEN + [[0, 1], (1, 0), (0,), (0, 0), (1, 1), (False, 1), (0, True), (0, 1, 2)]:
            self.assertIs(shows_latest(RACE, 20, run, value), False)
            self.assertIs(shows_latest(RACE, 20, value, lot), False)
        self.assertIs(shows_latest(RACE, 20, list(run), lot), False)
        self.assertIs(shows_latest(RACE, 19, run, lot), False)


class UnansweredTest(Case):
    def test_all_runs(self):
        for race in SMALL:
            for run in plain_runs(race):
                self.assertIs(shows_unanswered(race=race, run=run), plain_outcome(race, run)[0] is None)

    def test_refused(self):
        race = Race([Way(0, 1, 1), Way(None, 1, 1)], 1)
        self.assertIs(shows_unanswered(race, (None, None)), True)
        self.assertIs(shows_unanswered(race, [None, None]), False)
        self.assertIs(shows_unanswered(RACE, (None, None)), False)
        for value in NO_INTEGERS + NO_LISTS + BROKEN:
            self.assertIs(shows_unanswered(race, value), False)
