"""[6], [19]: races, their runs and outcomes."""

from itertools import islice

from tests.help import NO_INTEGERS, NO_LISTS, Case, Prickly, dice
from tests.plainraces import SPECIAL, plain_outcome, plain_runs, small_races
from wholeline.errors import BadPart, BadRun, CannotWin, NoWay, TooMany
from wholeline.races import Outcome, Race, outcomes, played, run_count, runs, silent_after, win_run
from wholeline.ways import Way

RACE = Race([Way(0, 1, 10), Way(3, 1, 2)], 1)
SMALL = SPECIAL + list(small_races(dice(11), 120)) + list(small_races(dice(12), 6, most_ways=4, most_delay=2))


def told(outcome):
    return outcome.winner, outcome.moment, outcome.sent


class RaceTest(Case):
    def test_example(self):
        self.same([RACE.last_win(0), RACE.last_win(1), RACE.latest(), RACE.hurried(0, 20)], [20, 7, 20, (1,)])

    def test_attributes(self):
        ways = [Way(0, 1, 2), Way(None, 3, 4)]
        race = Race(ways=ways, silent=3)
        ways.clear()
        self.assertEqual((race.ways, race.silent), ((Way(0, 1, 2), Way(None, 3, 4)), 3))
        self.assertIs(type(race.ways), tuple)
        self.same(race.planned(), (0,))

    def test_wrong_parts(self):
        for ways in NO_LISTS + [[], [Way(0, 1, 1)] * 5, [Way(0, 1, 1), None], [(0, 1, 1)], [[]]]:
            self.raises(BadPart("ways"), Race, ways, None)
        for silent in NO_INTEGERS + [-1, 4]:
            self.raises(BadPart("silent"), Race, [Way(0, 1, 1)], silent)

    def test_equal(self):
        self.equal_ones(Race([Way(0, 1, 2)], 1), Race((Way(0, 1, 2),), 1))
        self.unlike_ones(Race([Way(0, 1, 2)], 1), Race([Way(0, 1, 2)], 0))
        self.unlike_ones(Race([Way(0, 1, 2)], 1), Race([Way(1, 1, 2)], 1))
        self.unlike_others(RACE)
        self.not_iterated(RACE)

    def test_no_way(self):
        for way in NO_INTEGERS + [-1, 2]:
            self.raises(NoWay(way), RACE.hurried, way, None)
            self.raises(NoWay(way), RACE.can_win, way, None)
            self.raises(NoWay(way), RACE.last_win, way)
            self.raises(NoWay(way), win_run, RACE, way, 0)
            self.raises(NoWay(way), silent_after, RACE, way, 0)

    def test_hurried_by_the_words(self):
        for race in SMALL:
            for way in range(len(race.ways)):
                for at in range(-1, 14):
                    lot = []
                    for other, there in enumerate(race.ways):
                        if other != way and there.begin is not None:
                            end = there.begin + 2 * there.most
                            if end < at or (end == at and other < way):
                                lot.append(other)
                    self.same(race.hurried(way=way, at=at), tuple(lot))

    def test_wins_against_all_runs(self):
        for race in SMALL:
            wins = {(moment, winner) for winner, moment, _ in self.all_outcomes(race) if winner is not None}
            for way in range(len(race.ways)):
                moments = sorted(moment for moment, winner in wins if winner == way)
                self.same(race.last_win(way), moments[-1] if moments else None)
                for at in range(-1, 16):
                    self.assertIs(race.can_win(way, at), at in moments)
                if moments:
                    window = race.ways[way].window()
                    self.same(moments, list(range(window[0], moments[-1] + 1)))
            self.same(race.winners(), tuple(sorted({winner for _, winner in wins})))
            self.same(list(outcomes(race)), sorted(wins))
            self.check_latest(race, wins)

    def check_latest(self, race, wins):
        unanswered = any(moment is None for _, moment, _ in self.all_outcomes(race))
        self.assertEqual(unanswered, len(race.planned()) <= race.silent)
        self.same(race.latest(), None if unanswered else max(moment for moment, _ in wins))

    def all_outcomes(self, race):
        return [plain_outcome(race, run) for run in plain_runs(race)]

    def test_hurried_just_at_the_moment(self):
        race = Race([Way(0, 1, 2), Way(0, 1, 2)], 0)
        self.same([race.can_win(0, 4), race.can_win(1, 4), race.last_win(1)], [True, False, 3])

    def test_moment_that_is_none(self):
        for at in NO_INTEGERS:
            self.assertIs(RACE.can_win(0, at), False)


class PlayedTest(Case):
    def test_all_runs(self):
        for race in SMALL:
            for run in plain_runs(race):
                self.same(told(played(race, run)), plain_outcome(race, run))

    def test_examples(self):
        race = Race([Way(0, 1, 3), Way(4, 1, 1), Way(None, 1, 1)], 1)
        self.same(told(played(race=race, run=((1, 3), (1, 1), None))), (0, 4, (0,)))
        self.same(told(played(race, ((2, 3), (1, 1), None))), (0, 5, (0, 1)))
        self.same(told(played(race, ((3, 3), (1, 1), None))), (0, 6, (0, 1)))
        self.same(told(played(race, (None, (1, 1), None))), (1, 6, (0, 1)))
        self.same(told(played(race, ((1, 1), None, None))), (0, 2, (0,)))
        nobody = Race([Way(0, 1, 1), Way(9, 1, 1)], 2)
        self.same(told(played(nobody, (None, None))), (None, None, (0, 1)))

    def test_outcome(self):
        outcome = Outcome(winner=1, moment=5, sent=(0, 1))
        self.same(told(outcome), (1, 5, (0, 1)))
        self.same(told(Outcome(None, None, ())), (None, None, ()))
        self.not_iterated(outcome)
        self.unlike_others(outcome)
        self.equal_ones(outcome, Outcome(1, 5, (0, 1)))
        for other in (Outcome(0, 5, (0, 1)), Outcome(1, 6, (0, 1)), Outcome(1, 5, (0,))):
            self.unlike_ones(outcome, other)

    def test_wrong_runs(self):
        race = Race([Way(0, 1, 3), Way(4, 2, 2), Way(None, 1, 1)], 1)
        for run in NO_INTEGERS + NO_LISTS + [[(1, 1), (2, 2), None]]:
            if not isinstance(run, tuple):
                self.raises(BadRun(None), played, race, run)
        self.raises(BadRun(0), played, race, ())
        self.raises(BadRun(2), played, race, ((1, 1), (2, 2)))
        self.raises(BadRun(3), played, race, ((1, 1), (2, 2), None, None))
        self.raises(BadRun(1), played, race, ((1, 1), (2, 3)))
        self.raises(BadRun(2), played, race, ((1, 1), (2, 2), (1, 1)))
        self.raises(BadRun(None), played, race, (None, None, None))
        self.raises(BadRun(2), played, race, (None, None, (1, 1)))
        # Ways that are not sent any more have their entries, and count.
        unsent = Race([Way(0, 1, 1), Way(4, 1, 1), Way(5, 1, 1)], 1)
        self.same(told(played(unsent, ((1, 1), None, (1, 1)))), (0, 2, (0,)))
        self.raises(BadRun(None), played, unsent, ((1, 1), None, None))
        self.raises(BadRun(2), played, unsent, ((1, 1), None, (1, 2)))
        self.raises(BadRun(3), played, race, (None, None, None, 1))
        wrong = [(0, 1), (1, 4), (1,), (1, 1, 1), [1, 1], (True, 1), (1, None), "ab", (Prickly(), 1)]
        for entry in wrong + [value for value in NO_INTEGERS if value is not None]:
            self.raises(BadRun(0), played, race, (entry, 5, 5, 5))


class RunsTest(Case):
    def test_order_and_number(self):
        for race in SMALL:
            found = list(runs(race))
            self.same(found, list(plain_runs(race)))
            self.same(run_count(race), len(found))

    def test_none_comes_first(self):
        race = Race([Way(0, 1, 2), Way(None, 1, 1), Way(0, 1, 1)], 1)
        self.same(list(islice(runs(race=race), 4)), [
            (None, None, (1, 1)), ((1, 1), None, None), ((1, 1), None, (1, 1)), ((1, 2), None, None),
        ])
        self.same(run_count(race=race), 9)

    def test_too_many(self):
        race = Race([Way(0, 1, 50)] * 4, 3)
        self.same(run_count(race), 2500 ** 4 + 4 * 2500 ** 3 + 6 * 2500 ** 2 + 4 * 2500)
        runs(race)
        self.first_raises(TooMany(20000), runs(race))
        self.same(run_count(Race([Way(0, 1, 11), Way(0, 1, 13)], 0)), 20449)
        self.first_raises(TooMany(20000), runs(Race([Way(0, 1, 11), Way(0, 1, 13)], 0)))
        self.same(len(list(runs(Race([Way(0, 1, 10), Way(0, 1, 14)], 0)))), 19600)

    def test_silent_ways_count(self):
        race = Race([Way(0, 1, 50), Way(0, 1, 2), Way(0, 1, 1)], 0)
        self.same(run_count(race), 10000)
        self.same(len(list(runs(race))), 10000)
        race = Race([Way(0, 1, 50), Way(0, 1, 2), Way(0, 1, 1)], 1)
        self.same(run_count(race), 10000 + 4 + 2500 + 10000)
        self.first_raises(TooMany(20000), runs(race))

    def test_outcomes_of_races_with_more_runs(self):
        race = Race([Way(0, 1, 50), Way(10, 20, 50), Way(1000, 1, 50), Way(None, 1, 1)], 1)
        found = list(outcomes(race=race))
        self.same(found, sorted(set(found)))
        wins = [(at, way) for at in range(1200) for way in range(4) if race.can_win(way, at)]
        self.same(found, wins)
        self.same(found[-1], (race.latest(), 1))
        many = Race([Way(0, 1, 50)] * 4, 3)
        self.same(list(outcomes(many))[-1], (100, 3))
        self.same(list(outcomes(Race([Way(None, 1, 1)], 0))), [])


class WinRunTest(Case):
    def test_all_wins(self):
        for race in SMALL:
            for way in range(len(race.ways)):
                for at in range(-1, 16):
                    if race.can_win(way, at):
                        winner, moment, _ = plain_outcome(race, win_run(race, way, at))
                        self.same((winner, moment), (way, at))
                        played(race, win_run(race=race, way=way, at=at))
                    else:
                        self.raises(CannotWin(way), win_run, race, way, at)
                        self.raises(CannotWin(way), silent_after, race, way, at)

    def test_silent_after_against_all_runs(self):
        for race in SMALL:
            by_win = {}
            for run in plain_runs(race):
                winner, moment, _ = plain_outcome(race, run)
                by_win.setdefault((winner, moment), []).append({way for way in race.planned() if run[way] is None})
            for (way, at), silent in by_win.items():
                if way is not None:
                    surely = tuple(sorted(set.intersection(*silent)))
                    maybe = tuple(sorted(set.union(*silent)))
                    self.same(silent_after(race=race, way=way, at=at), (surely, maybe))

    def test_no_moment(self):
        for at in NO_INTEGERS:
            self.raises(CannotWin(0), win_run, RACE, 0, at)
            self.raises(CannotWin(0), silent_after, RACE, 0, at)
