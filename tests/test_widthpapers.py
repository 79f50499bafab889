"""[36]: runs of plans, and those with the greatest and the least times."""

from itertools import product

from tests.help import NO_INTEGERS, Case, Prickly, Same, dice
from tests.plaingames import plain_behind, random_game, random_plan, random_state
from tests.test_plans import GAME, PLAN, THREE
from tests.test_states import NO_STATES
from wholeline.errors import BadAnswers, BadIndex, BadPart, BadPlan, BadState
from wholeline.plans import most_probes
from wholeline.widthpapers import greatest_run, least_run, run_times
from wholeline.widthtimes import greatest_times, least_times


def plain_run_times(game, state, plan, place, run):
    """The times of a run by the words of [36], or the word of what is wrong with it."""
    answers, left = run
    low = high = lost = 0
    need = state[place]
    for answer in answers:
        probe = plan[state]
        if probe == "go" or (answer and probe > place):
            return "answers"
        low += 2 * (game.least if answer else game.most)
        high += 2 * game.most
        lost += not answer and probe <= place
        state = plain_behind(game, state, probe)[0 if answer else 1]
    if plan[state] != "go":
        return "answers"
    if need + lost + left > game.losses:
        return "losses"
    count = 2 * game.counts[[at for at, told in enumerate(state) if told is not None][0]] - 1
    return low + count * game.least + left * game.turn, high + count * game.most + left * game.turn


class RunTest(Case):
    def test_the_example(self):
        self.same(run_times(GAME, (0, 0), PLAN, 0, ((False, False), 1)), (4 + 79 + 2, 4 + 79 + 2))
        self.same(run_times(GAME, (0, 0), PLAN, 0, ((False, False), 0)), (83, 83))
        self.same(run_times(GAME, (0, 0), PLAN, 1, ((True,), 1)), (43, 43))
        # A lost probe leaves no loss for the parcels.
        self.same(run_times(game=GAME, state=(0, 0), plan=PLAN, place=1, run=((False, True), 0)), (43, 43))
        self.same(run_times(GAME, (0, 1), {(0, 1): "go"}, 1, ((), 0)), (79, 79))

    def test_least_and_most_delays(self):
        plan = {(0, 0, 0): 2, (None, None, 0): "go", (0, 0, 1): 1, (None, 0, 1): "go", (0, 1, None): "go"}
        # A silence takes 4 in both.
        self.same(run_times(THREE, (0, 0, 0), plan, 2, ((True,), 1)), (2 + 19 + 9, 4 + 38 + 9))
        self.same(run_times(THREE, (0, 0, 0), plan, 2, ((False, True), 0)), (4 + 2 + 39, 4 + 4 + 78))
        self.same(run_times(THREE, (0, 0, 0), plan, 1, ((False, True), 1)), (4 + 2 + 39 + 9, 4 + 4 + 78 + 9))
        self.same(run_times(THREE, (0, 0, 0), plan, 1, ((False, False), 0)), (8 + 79, 8 + 158))

    def test_all_answers(self):
        roll = dice(411)
        words = {"answers": 0, "losses": 0, "times": 0}
        for _ in range(120):
            game = random_game(roll, 4)
            state = random_state(roll, game)
            plan = random_plan(roll, game, state)
            long = min(most_probes(game, state, plan), 4) + 1
            for place in [place for place, need in enumerate(state) if need is not None]:
                for many in range(long + 1):
                    for answers in product((True, False), repeat=many):
                        for left in range(game.losses + 2):
                            want = plain_run_times(game, state, plan, place, (answers, left))
                            if isinstance(want, str):
                                self.raises(BadAnswers(want), run_times, game, state, plan, place, (answers, left))
                                words[want] += 1
                            else:
                                self.same(run_times(game, state, plan, place, (answers, left)), want)
                                words["times"] += 1
        self.assertGreater(min(words.values()), 300)

    def test_greatest_and_least_runs(self):
        roll = dice(412)
        for _ in range(300):
            game = random_game(roll, 5)
            state = random_state(roll, game)
            plan = random_plan(roll, game, state)
            greatest, least = greatest_times(game, state, plan), least_times(game, state, plan)
            for place in [place for place, need in enumerate(state) if need is not None]:
                slow = greatest_run(game, state, plan, place)
                quick = least_run(game=game, state=state, plan=plan, place=place)
                self.same(run_times(game, state, plan, place, slow)[1], greatest[place])
                self.same(run_times(game, state, plan, place, quick)[0], least[place])

    def test_left_at_its_edge(self):
        for left, word in ((1, None), (2, "losses"), (10 ** 9, "losses")):
            run = ((True,), left)
            if word is None:
                self.same(run_times(GAME, (0, 0), PLAN, 1, run), (43, 43))
            else:
                self.raises(BadAnswers(word), run_times, GAME, (0, 0), PLAN, 1, run)
        # A lost probe, and one more.
        self.same(run_times(GAME, (0, 0), PLAN, 1, ((False, True), 0)), (43, 43))
        self.raises(BadAnswers("losses"), run_times, GAME, (0, 0), PLAN, 1, ((False, True), 1))
        self.raises(BadAnswers("losses"), run_times, GAME, (0, 0), PLAN, 1, ((False, False), 0))
        # The need counts, too.
        self.same(run_times(GAME, (0, 1), PLAN, 1, ((True,), 0)), (41, 41))
        self.raises(BadAnswers("losses"), run_times, GAME, (0, 1), PLAN, 1, ((True,), 1))
        self.raises(BadAnswers("losses"), run_times, GAME, (0, 1), PLAN, 1, ((False,), 0))

    def test_answers_of_a_wider_probe_and_other_ends(self):
        self.raises(BadAnswers("answers"), run_times, GAME, (0, 0), PLAN, 0, ((True,), 0))
        self.raises(BadAnswers("answers"), run_times, GAME, (0, 0), PLAN, 0, ((False, True), 0))
        self.raises(BadAnswers("answers"), run_times, GAME, (0, 0), PLAN, 0, ((False,), 0))
        self.raises(BadAnswers("answers"), run_times, GAME, (0, 0), PLAN, 0, ((), 0))
        self.raises(BadAnswers("answers"), run_times, GAME, (0, 0), PLAN, 0, ((False, False, False), 0))
        self.raises(BadAnswers("answers"), run_times, GAME, (0, 0), PLAN, 1, ((True, True), 0))
        self.raises(BadAnswers("answers"), run_times, GAME, (0, 0), {(0, 0): "go"}, 1, ((True,), 0))
        # The answers are looked at ahead of the losses.
        self.raises(BadAnswers("answers"), run_times, GAME, (0, 0), PLAN, 0, ((True,), 9))
        self.raises(BadAnswers("answers"), run_times, GAME, (0, 0), PLAN, 1, ((False,), 9))


class ErrorsTest(Case):
    def test_in_their_order(self):
        calls = [
            lambda *args: run_times(*args, None), greatest_run, least_run,
            lambda game, state, plan, place: run_times(game, state, plan, place, ((), 0)),
        ]
        for call in calls:
            for value in NO_INTEGERS + [Same()]:
                self.raises(BadPart("game"), call, value, None, None, None)
            for value in NO_STATES:
                self.raises(BadState(value), call, THREE, value, None, None)
            for value in [None, [], (), "go", Same(), 0, Prickly()]:
                self.raises(BadPart("plan"), call, GAME, (0, 0), value, None)
            self.raises(BadPlan(((0, 0), "lacks")), call, GAME, (0, 0), {}, None)
            self.raises(BadPlan(((0, 1), "choice")), call, GAME, (0, 0), {**PLAN, (0, 1): 0}, None)
            for value in NO_INTEGERS + [-1, 2, Same()]:
                self.raises(BadIndex(value), call, GAME, (0, 0), PLAN, value)
            self.raises(BadIndex(0), call, GAME, (None, 0), PLAN, 0)
            self.raises(BadIndex(1), call, GAME, (0, None), PLAN, 1)

    def test_values_that_are_no_run(self):
        for value in NO_INTEGERS + [
            (), ((),), ((), 0, 0), [(), 0], ([], 0), ((), -1), ((), True), ((), None), ((), "0"), (None, 0), (True, 0),
            ((1,), 0), ((0,), 0), ((None,), 0), (("go",), 0), ((True, 0), 0), ((Prickly(),), 0), ((True,), Prickly()),
            ((Same(),), 0), ((), Same()), (Same(), 0), (Prickly(), 0), ({}, 0), 0, 1, ((), 1.0),
        ]:
            self.raises(BadAnswers("run"), run_times, GAME, (0, 0), {(0, 0): "go"}, 0, value)
