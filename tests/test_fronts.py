"""[35]: fronts, the vectors of the plans that no plan betters."""

from tests.help import NO_INTEGERS, Case, Same, dice
from tests.plaingames import all_plans, plain_runs, random_game, random_state
from tests.test_plans import GAME, THREE
from tests.test_states import NO_STATES
from wholeline.errors import BadPart, BadState, TooMany
from wholeline.fronts import front
from wholeline.plans import check_plan, told_plan
from wholeline.regret import late
from wholeline.states import start
from wholeline.widths import Game
from wholeline.widthtimes import greatest_times


def plain_vector(game, state, plan):
    """The greatest times of all runs, by true widths."""
    times = [None] * len(game.widths)
    for place, _, high in plain_runs(game, state, plan):
        times[place] = high if times[place] is None else max(high, times[place])
    return tuple(times)


def betters(one, other):
    pairs = [(a, b) for a, b in zip(one, other) if a is not None]
    return all(a <= b for a, b in pairs) and any(a < b for a, b in pairs)


def plain_front(vectors):
    kept = {told for told in vectors if not any(betters(other, told) for other in vectors)}
    return tuple(sorted(kept, key=lambda vector: [-1 if time is None else time for time in vector]))


def four_widths(roll, losses):
    counts = sorted([roll.randrange(1, 60) for _ in range(4)], reverse=True)
    most = roll.randrange(1, 6)
    return Game([1, 5, 6, 9], counts, least=1, most=most, turn=roll.randrange(1, 30), losses=losses)


class FrontTest(Case):
    def test_the_example(self):
        # Going takes 81 at most. One probe alone leaves both at 83; two take 4 and 81 without an answer, and for the
        # width 20 two and 39 and a turn, or four and 39.
        self.same(front(GAME, (0, 0)), ((81, 81), (85, 43)))
        self.same(front(game=GAME, state=(None, 1)), ((None, 39),))
        self.same(front(GAME, (0, None)), ((81, None),))

    def test_one_width(self):
        game = Game([5], [7], least=1, most=2, turn=3, losses=3)
        self.same([front(game, (0,)), front(game, (3,))], [((35,),), ((26,),)])

    def test_over_all_plans(self):
        roll = dice(401)
        sizes = set()
        looked = 0
        while looked < 120:
            game = random_game(roll, 3, 1 if looked % 3 else 2)
            state = random_state(roll, game)
            vectors = set()
            for many, plan in enumerate(all_plans(game, state)):
                if many > 700:
                    break
                vectors.add(plain_vector(game, state, plan))
            else:
                told = front(game, state)
                self.same(told, plain_front(vectors))
                sizes.add(len(told))
                looked += 1
        self.assertGreater(len(sizes), 3)

    def test_four_widths_over_all_plans(self):
        roll = dice(402)
        for _ in range(60):
            game = four_widths(roll, 0)
            vectors = {plain_vector(game, start(game), plan) for plan in all_plans(game, start(game))}
            self.same(front(game, start(game)), plain_front(vectors))

    def test_the_late_number_by_the_front(self):
        roll = dice(403)
        for losses in (1, 2, 3) * 4:
            game = four_widths(roll, losses)
            state = random_state(roll, game)
            told = front(game, state)
            for _ in range(5):
                dues = [roll.randrange(-100, 700) for _ in range(4)]
                lateness = [max(t - due for t, due in zip(vector, dues) if t is not None) for vector in told]
                self.same(late(game, state, dues), min(lateness))
            for vector in roll.sample(told, min(len(told), 4)):
                # With the vector as dues a best plan has just these times.
                dues = [0 if time is None else time for time in vector]
                plan = told_plan(game, state, dues)
                self.same(check_plan(game, state, dues, plan), 0)
                self.same(greatest_times(game, state, plan), vector)

    def test_none_betters_another_and_all_ascend(self):
        roll = dice(404)
        for _ in range(20):
            game = four_widths(roll, 3)
            told = front(game, start(game))
            self.assertEqual(list(told), sorted(set(told)))
            self.assertFalse(any(betters(one, other) for one in told for other in told))

    def test_states_with_widths_that_cannot_be(self):
        game = Game([1, 2, 3, 4], [30, 20, 9, 4], least=1, most=2, turn=5, losses=2)
        for state in ((None, 0, 1, None), (None, None, None, 2), (0, 1, None, None), (None, 2, 2, 2)):
            for vector in front(game, state):
                self.assertEqual([time is None for time in vector], [need is None for need in state])
            self.same(front(game, state), plain_front({
                plain_vector(game, state, plan) for plan in all_plans(game, state)}))


class ErrorsTest(Case):
    def test_in_their_order(self):
        five = Game([1, 2, 3, 4, 5], [9, 8, 7, 6, 5], least=1, most=1, turn=2, losses=0)
        for value in NO_INTEGERS + [Same(), Game, (1, 2)]:
            self.raises(BadPart("game"), front, value, None)
        for value in NO_STATES:
            self.raises(BadState(value), front, THREE, value)
        self.raises(BadState((0, 0)), front, five, (0, 0))
        self.raises(TooMany(4), front, five, (0, 0, 0, 0, 0))
        self.raises(TooMany(4), front, five, (None, None, 0, None, None))
        four = Game([1, 2, 3, 4], [9, 8, 7, 6], least=1, most=1, turn=2, losses=0)
        self.assertGreater(len(front(four, (0, 0, 0, 0))), 0)
