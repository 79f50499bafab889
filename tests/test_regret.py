"""[33]: late numbers and regret."""

from tests.help import NO_INTEGERS, NO_LISTS, Case, Same, dice
from tests.plaingames import all_plans, all_states, plain_behind, plain_lateness, plain_useful, random_game, random_state
from tests.test_states import NO_STATES
from wholeline.errors import BadPart, BadState
from wholeline.regret import best, go_late, late, regret
from wholeline.states import start
from wholeline.widths import Game, bases

GAME = Game([10, 20], [40, 20], least=1, most=1, turn=2, losses=1)
THREE = Game([10, 20, 30], [40, 20, 10], least=1, most=2, turn=9, losses=1)


def plain_late(game, state, dues, known):
    """The late number by the words of [33]."""
    if state not in known:
        known[state] = min(plain_choices(game, state, dues, known).values())
    return known[state]


def plain_choices(game, state, dues, known):
    can_be = [place for place, need in enumerate(state) if need is not None]
    going = (2 * game.counts[can_be[0]] - 1) * game.most
    told = {"go": max(going + game.turn * (game.losses - state[place]) - dues[place] for place in can_be)}
    for place in plain_useful(state):
        told[place] = 2 * game.most + max(plain_late(game, behind, dues, known) for behind in plain_behind(game, state, place))
    return told


class LateTest(Case):
    def test_the_example(self):
        self.same(regret(GAME, (0, 0)), 4)
        self.same(bases(GAME), (81, 41))
        self.same(go_late(GAME, (0, 0), (81, 41)), 40)
        self.same([late(GAME, (0, 0), (81, 41)), best(GAME, (0, 0), (81, 41))], [4, (1,)])
        # Two probes in a row without an answer: 4 later than 81 if the width is 10.
        self.same([late(GAME, (0, 1), (81, 41)), best(GAME, (0, 1), (81, 41))], [2, (1,)])
        self.same([late(GAME, (None, 1), (81, 41)), late(GAME, (0, None), (81, 41))], [-2, 0])

    def test_over_all_plans(self):
        roll = dice(111)
        looked = 0
        while looked < 120:
            game = random_game(roll, 3, 1 if looked % 3 else 2)
            state = random_state(roll, game)
            plans = []
            for plan in all_plans(game, state):
                plans.append(plan)
                if len(plans) > 700:
                    break
            if len(plans) > 700 or (len(plans) < 4 and looked % 2):
                continue
            looked += 1
            dues = [roll.randrange(-20, 200) for _ in game.widths]
            lateness = [plain_lateness(game, state, plan, dues) for plan in plans]
            self.same(late(game, state, dues), min(lateness))
            going = [told for plan, told in zip(plans, lateness) if plan[state] == "go"]
            self.same(go_late(game, state, dues), min(going))
            first = {}
            for plan, told in zip(plans, lateness):
                first[plan[state]] = min(told, first.get(plan[state], told))
            self.same(best(game, state, dues), tuple(
                choice for choice in ["go", *plain_useful(state)] if first[choice] == min(lateness)))

    def test_by_the_words(self):
        roll = dice(112)
        for _ in range(120):
            game = random_game(roll, 6)
            state = random_state(roll, game)
            dues = [roll.randrange(-300, 300) for _ in game.widths]
            if roll.random() < 0.3:
                dues = list(bases(game))
            known = {}
            choices = plain_choices(game, state, dues, known)
            self.same(late(game, state, tuple(dues)), min(choices.values()))
            self.same(go_late(game=game, state=state, dues=dues), choices["go"])
            self.same(best(game=game, state=state, dues=dues), tuple(
                choice for choice in ["go", *plain_useful(state)] if choices[choice] == min(choices.values())))
            known = {}
            self.same(regret(game=game, state=state), plain_late(game, state, bases(game), known))
            self.same(late(game=game, state=state, dues=bases(game)), regret(game, state))

    def test_equal_dues(self):
        roll = dice(113)
        for _ in range(60):
            game = random_game(roll, 5)
            state = random_state(roll, game)
            due = roll.randrange(-100, 100)
            self.assertEqual(best(game, state, [due] * len(game))[0], "go")
            self.same(late(game, state, [due] * len(game)), go_late(game, state, [due] * len(game)))

    def test_regret_at_the_start(self):
        roll = dice(114)
        for _ in range(60):
            game = random_game(roll, 5)
            alike = len(set(game.counts)) == 1
            self.assertIs(regret(game, start(game)) == 0, alike)
            self.assertGreaterEqual(regret(game, start(game)), 0)
        game = Game([1, 2, 3], [7, 7, 7], least=1, most=2, turn=3, losses=3)
        self.same([regret(game, start(game)), best(game, start(game), bases(game))[0]], [0, "go"])
        game = Game([5], [7], least=1, most=2, turn=3, losses=3)
        self.same([regret(game, start(game)), regret(game, (3,)), best(game, (0,), (0,))], [0, -9, ("go",)])

    def test_states_with_less(self):
        game = Game([1, 2, 3], [30, 12, 5], least=1, most=2, turn=3, losses=2)
        states = list(all_states(game))
        roll = dice(115)
        dues = [roll.randrange(-50, 150) for _ in range(3)]
        numbers = {state: late(game, state, dues) for state in states}
        for one in states:
            for other in states:
                places = [place for place in range(3) if one[place] is not None]
                if all(other[place] is not None and other[place] <= one[place] for place in places):
                    self.assertLessEqual(numbers[one], numbers[other])

    def test_dues_below_0(self):
        self.same(late(GAME, (0, 0), (-1000, -1000)), 1081)
        self.same(go_late(GAME, (None, 0), (-10 ** 15, 5)), 36)

    def test_many_widths(self):
        game = Game(list(range(1, 9)), [90, 80, 70, 60, 50, 40, 30, 20], least=1, most=3, turn=9, losses=3)
        self.same(regret(game, start(game)), plain_late(game, start(game), bases(game), {}))


class ErrorsTest(Case):
    def test_in_their_order(self):
        for call in (go_late, late, best):
            for value in NO_INTEGERS + [Same(), Game]:
                self.raises(BadPart("game"), call, value, None, None)
            for value in NO_STATES:
                self.raises(BadState(value), call, THREE, value, None)
            for value in NO_LISTS + [[], (), [1, 2], [1] * 4]:
                self.raises(BadPart("dues"), call, THREE, (0, 0, 0), value)
            for value in NO_INTEGERS:
                self.raises(BadPart("dues"), call, THREE, (0, 0, 0), [1, 2, value])
        self.raises(BadPart("game"), regret, None, None)
        for value in NO_STATES:
            self.raises(BadState(value), regret, THREE, value)

    def test_dues_are_not_kept(self):
        dues = [81, 41]
        self.same(late(GAME, (0, 0), dues), 4)
        self.same(dues, [81, 41])
