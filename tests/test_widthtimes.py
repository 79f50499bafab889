"""[36]: the times of a plan for each true width."""

from tests.help import NO_INTEGERS, Case, Same, dice
from tests.plaingames import all_plans, plain_runs, random_game, random_plan, random_state
from tests.test_plans import GAME, PLAN, THREE
from tests.test_states import NO_STATES
from wholeline.errors import BadPart, BadPlan, BadState
from wholeline.plans import check_plan
from wholeline.widths import Game, bases
from wholeline.widthtimes import greatest_times, least_times


def plain_times(game, state, plan):
    """The greatest and the least times of all runs."""
    greatest, least = [None] * len(game.widths), [None] * len(game.widths)
    for place, low, high in plain_runs(game, state, plan):
        greatest[place] = high if greatest[place] is None else max(high, greatest[place])
        least[place] = low if least[place] is None else min(low, least[place])
    return tuple(greatest), tuple(least)


class TimesTest(Case):
    def test_the_example(self):
        # Two lost probes ahead of 79 and a turn; an answer ahead of 39 and a turn, or a lost one and an answer.
        self.same(greatest_times(GAME, (0, 0), PLAN), (4 + 79 + 2, 2 + 39 + 2))
        self.same(least_times(GAME, (0, 0), PLAN), (4 + 79, 2 + 39))
        self.same(greatest_times(game=GAME, state=(0, 0), plan={(0, 0): "go"}), (81, 81))
        self.same(least_times(game=GAME, state=(0, 1), plan={(0, 1): "go"}), (79, 79))

    def test_none_for_those_that_cannot_be(self):
        self.same(greatest_times(THREE, (None, 1, None), {(None, 1, None): "go"}), (None, 78, None))
        self.same(least_times(THREE, (None, None, 0), {(None, None, 0): "go"}), (None, None, 19))

    def test_delays_between_least_and_most(self):
        game = Game([1, 2], [9, 4], least=1, most=5, turn=100, losses=1)
        plan = {(0, 0): 1, (None, 0): "go", (0, 1): "go"}
        self.same(greatest_times(game, (0, 0), plan), (10 + 85 + 100, 10 + 35 + 100))
        # A silence takes twice the most delay; a lost probe leaves no loss for the parcels.
        self.same(least_times(game, (0, 0), plan), (10 + 17, 2 + 7))
        game = Game([1, 2], [9, 4], least=1, most=5, turn=2, losses=1)
        self.same(greatest_times(game, (0, 0), plan), (10 + 85 + 2, 10 + 85))

    def test_over_all_runs(self):
        roll = dice(141)
        for _ in range(250):
            game = random_game(roll, 4)
            state = random_state(roll, game)
            plan = random_plan(roll, game, state)
            greatest, least = plain_times(game, state, plan)
            self.same(greatest_times(game, state, plan), greatest)
            self.same(least_times(game, state, plan), least)
            dues = bases(game)
            self.same(max(time - due for time, due in zip(greatest, dues) if time is not None),
                      check_plan(game, state, dues, plan))

    def test_over_all_plans_of_a_game(self):
        game = Game([1, 2, 3], [9, 4, 4], least=2, most=3, turn=7, losses=0)
        for plan in all_plans(game, (0, 0, 0)):
            self.same((greatest_times(game, (0, 0, 0), plan), least_times(game, (0, 0, 0), plan)),
                      plain_times(game, (0, 0, 0), plan))

    def test_errors_in_their_order(self):
        for call in (greatest_times, least_times):
            for value in NO_INTEGERS + [Same()]:
                self.raises(BadPart("game"), call, value, None, None)
            for value in NO_STATES:
                self.raises(BadState(value), call, THREE, value, None)
            for value in [None, [], (), "go", Same(), 0]:
                self.raises(BadPart("plan"), call, GAME, (0, 0), value)
            self.raises(BadPlan(((0, 0), "lacks")), call, GAME, (0, 0), {})
            self.raises(BadPlan(((None, 0), "lacks")), call, GAME, (0, 0), {(0, 0): 1, (None, False): "go"})
            self.raises(BadPlan(((0, 1), "choice")), call, GAME, (0, 0), {(0, 0): 1, (None, 0): "go", (0, 1): None})
