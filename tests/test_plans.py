"""[34]: plans, their lateness and their courses."""

from tests.help import NO_INTEGERS, NO_LISTS, Case, Prickly, Same, dice
from tests.plaingames import (all_plans, plain_behind, plain_lateness, plain_met, random_game, random_plan, random_state)
from tests.test_states import NO_STATES
from wholeline.errors import BadPart, BadPlan, BadState
from wholeline.plans import check_plan, courses, most_probes, told_plan
from wholeline.regret import best, late
from wholeline.states import start, state_of
from wholeline.widths import Game, bases

GAME = Game([10, 20], [40, 20], least=1, most=1, turn=2, losses=1)
THREE = Game([10, 20, 30], [40, 20, 10], least=1, most=2, turn=9, losses=1)
PLAN = {(0, 0): 1, (None, 0): "go", (0, 1): 1, (None, 1): "go", (0, None): "go"}


def plain_courses(game, state, plan, log=()):
    """All courses, an answer ahead of a silence."""
    choice = plan[state]
    if choice == "go":
        return [(log, [place for place, need in enumerate(state) if need is not None][0])]
    heard, unheard = plain_behind(game, state, choice)
    return (plain_courses(game, heard, plan, log + ((choice, True),))
            + plain_courses(game, unheard, plan, log + ((choice, False),)))


def all_calls(game, state, dues, plan):
    """What takes a plan."""
    return [lambda: check_plan(game, state, dues, plan), lambda: most_probes(game, state, plan),
            lambda: next(courses(game, state, plan))]


class CheckPlanTest(Case):
    def test_the_example(self):
        self.same(check_plan(GAME, (0, 0), (81, 41), PLAN), 4)
        self.same(check_plan(GAME, (0, 0), [81, 41], {(0, 0): "go"}), 40)
        self.same(check_plan(GAME, (0, 0), [81, 41], {**PLAN, (0, 1): "go"}), 40)
        self.same(check_plan(game=GAME, state=(0, 1), dues=bases(GAME), plan=PLAN), 2)

    def test_over_all_runs(self):
        roll = dice(121)
        for _ in range(150):
            game = random_game(roll, 4, 2)
            state = random_state(roll, game)
            plan = random_plan(roll, game, state)
            dues = [roll.randrange(-50, 150) for _ in game.widths]
            self.same(check_plan(game, state, dues, plan), plain_lateness(game, state, plan, dues))
            self.assertGreaterEqual(check_plan(game, state, dues, plan), late(game, state, dues))

    def test_other_keys_do_not_matter(self):
        others = {None: 1, "go": 2, 5: "go", (1, 2): None, (None, None): 1, (0, 0, 0): 1, (1, 1): 7, (): 0, b"": 1, Prickly: 1}
        self.same(check_plan(GAME, (0, 0), (81, 41), {**others, **PLAN}), 4)
        self.same(check_plan(GAME, (0, 0), (81, 41), {**PLAN, **others}), 4)
        # A state that is not met may have a choice that is none.
        self.same(check_plan(GAME, (0, 0), (81, 41), {(0, 0): "go", (0, 1): "stay", (None, 0): None}), 40)

    def test_keys_with_truths(self):
        plan = {(False, 0): 1, **{key: choice for key, choice in PLAN.items() if key != (0, 0)}}
        self.assertIn((0, 0), plan)
        plan_of_one = {(None, True): "go", (0, 0): 1, (None, 0): "go", (0, 1): 1, (0, None): "go"}
        for told, met in ((plan, (0, 0)), (plan_of_one, (None, 1))):
            for call in all_calls(GAME, (0, 0), (81, 41), told):
                self.raises(BadPlan((met, "lacks")), call)

    def test_first_met_state_that_is_wrong(self):
        for place, met in enumerate(plain_met(GAME, (0, 0), PLAN)):
            behind = plain_met(GAME, (0, 0), PLAN)[place + 1:]
            plan = {key: choice for key, choice in PLAN.items() if key != met}
            for call in all_calls(GAME, (0, 0), (81, 41), {**plan, **{key: None for key in behind}}):
                self.raises(BadPlan((met, "lacks")), call)
            for call in all_calls(GAME, (0, 0), (81, 41), {**PLAN, met: None}):
                self.raises(BadPlan((met, "choice")), call)
            lacking = {key: choice for key, choice in PLAN.items() if key not in behind}
            for call in all_calls(GAME, (0, 0), (81, 41), {**lacking, met: "stay"}):
                self.raises(BadPlan((met, "choice")), call)

    def test_values_that_are_no_choice(self):
        for value in NO_INTEGERS + [0, 3, -1, "Go", "GO", "go ", b"go", ("go",), ["go"], Same(), Prickly()]:
            for call in all_calls(THREE, (0, 0, 0), [0] * 3, {(0, 0, 0): value}):
                self.raises(BadPlan(((0, 0, 0), "choice")), call)
        for call in all_calls(THREE, (None, 0, 0), [0] * 3, {(None, 0, 0): 1}):
            self.raises(BadPlan(((None, 0, 0), "choice")), call)

    def test_errors_in_their_order(self):
        for value in NO_INTEGERS + [Same()]:
            for call in all_calls(value, None, None, None):
                self.raises(BadPart("game"), call)
        for value in NO_STATES:
            for call in all_calls(THREE, value, None, None):
                self.raises(BadState(value), call)
        for value in NO_LISTS + [[], [1], [1, 2, None]]:
            self.raises(BadPart("dues"), check_plan, THREE, (0, 0, 0), value, None)
            self.raises(BadPart("dues"), told_plan, THREE, (0, 0, 0), value)
        self.raises(BadPart("game"), told_plan, None, None, None)
        self.raises(BadState(None), told_plan, THREE, None, None)
        for value in [None, True, 0, "", "go", [], (), [((0, 0, 0), "go")], {(0, 0, 0)}, Prickly(), Same(), object()]:
            for call in all_calls(THREE, (0, 0, 0), (0, 0, 0), value):
                self.raises(BadPart("plan"), call)
        for call in all_calls(THREE, (0, 0, 0), (0, 0, 0), {}):
            self.raises(BadPlan(((0, 0, 0), "lacks")), call)


class ToldPlanTest(Case):
    def test_the_example(self):
        self.same(told_plan(GAME, (0, 0), (81, 41)), PLAN)
        self.same(list(told_plan(GAME, (0, 0), (81, 41))), plain_met(GAME, (0, 0), PLAN))
        self.same(told_plan(game=GAME, state=(0, 0), dues=(0, 0)), {(0, 0): "go"})

    def test_its_lateness_and_its_choices(self):
        roll = dice(122)
        long = 0
        for _ in range(150):
            game = random_game(roll, 5)
            state = random_state(roll, game)
            dues = [roll.randrange(-50, 150) for _ in game.widths] if roll.random() < 0.5 else bases(game)
            plan = told_plan(game, state, dues)
            self.same(list(plan), plain_met(game, state, plan))
            self.same(check_plan(game, state, dues, plan), late(game, state, dues))
            for told, choice in plan.items():
                self.same(choice, best(game, told, dues)[0])
            long += len(plan) > 8
        self.assertTrue(long)

    def test_dicts_are_new(self):
        told_plan(GAME, (0, 0), (81, 41)).clear()
        self.same(told_plan(GAME, (0, 0), (81, 41)), PLAN)

    def test_many_widths(self):
        game = Game(list(range(1, 9)), [90, 80, 70, 60, 50, 40, 30, 20], least=1, most=3, turn=9, losses=3)
        plan = told_plan(game, start(game), bases(game))
        self.same(check_plan(game, start(game), bases(game), plan), late(game, start(game), bases(game)))


class CoursesTest(Case):
    def test_the_example(self):
        self.same(list(courses(GAME, (0, 0), PLAN)), [
            (((1, True),), 1), (((1, False), (1, True)), 1), (((1, False), (1, False)), 0)])
        self.same(list(courses(game=GAME, state=(0, 1), plan={(0, 1): "go"})), [((), 0)])
        self.same([most_probes(GAME, (0, 0), PLAN), most_probes(game=GAME, state=(None, 1), plan=PLAN)], [2, 0])

    def test_all_courses_of_random_plans(self):
        roll = dice(123)
        for _ in range(120):
            game = random_game(roll, 5)
            state = random_state(roll, game)
            plan = random_plan(roll, game, state)
            found = plain_courses(game, state, plan)
            self.same(list(courses(game, state, plan)), found)
            self.same(most_probes(game, state, plan), max(len(log) for log, _ in found))
            if state == start(game):
                for log, place in found:
                    behind = state_of(game, log)
                    self.same([at for at, need in enumerate(behind) if need is not None][0], place)

    def test_all_small_plans(self):
        game = Game([1, 2], [9, 4], least=1, most=2, turn=5, losses=2)
        plans = list(all_plans(game, (0, 0)))
        self.assertGreater(len(plans), 3)
        for plan in plans:
            self.same(list(courses(game, (0, 0), plan)), plain_courses(game, (0, 0), plan))

    def test_a_plan_that_is_changed_meanwhile(self):
        plan = dict(PLAN)
        found = courses(GAME, (0, 0), plan)
        first = next(found)
        plan.clear()
        self.same([first, *found], plain_courses(GAME, (0, 0), PLAN))

    def test_errors_come_with_the_first_value(self):
        found = courses(None, None, None)
        self.first_raises(BadPart("game"), found)
        self.first_raises(BadPlan(((0, 0), "lacks")), courses(GAME, (0, 0), {}))
