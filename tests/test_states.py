"""[32]: states, and what probes tell."""

from tests.help import NO_INTEGERS, NO_LISTS, Case, Prickly, Same, dice
from tests.plaingames import all_states, plain_behind, plain_state, plain_useful, random_game, random_state
from wholeline.errors import BadLog, BadPart, BadProbe, BadState
from wholeline.states import answered, is_state, reached, silent, start, state_of, useful
from wholeline.widths import Game

GAME = Game([10, 20, 30], [40, 20, 10], least=1, most=2, turn=9, losses=1)
NO_STATES = [
    None, True, 0, "", "go", (), [], (0,), (0, 0), (0, 0, 0, 0), [0, 0, 0], (None, None, None), (0, None, 0), (1, 0, 0),
    (None, 1, 0), (0, 0, 2), (0, 0, -1), (-1, 0, 0), (None, -1, None), (2, 2, 2), (0, 0, True), (False, 0, 0), (0, 0, "0"), (0, 0, 0.0), (0, 0, (0,)), {0: 0, 1: 0, 2: 0},
    Prickly(), Same(), (Prickly(), 0, 0), (0, Same(), 0), "000", b"\x00\x00\x00",
]


class StateTest(Case):
    def test_start(self):
        self.same(start(GAME), (0, 0, 0))
        self.same(start(game=Game([1], [1], least=1, most=1, turn=1, losses=0)), (0,))

    def test_all_small_values(self):
        for many in (1, 2, 3):
            for losses in range(3):
                game = Game(list(range(1, many + 1)), [1] * many, least=1, most=1, turn=1, losses=losses)
                every = set(all_states(game))
                wider = Game(game.widths, game.counts, least=1, most=1, turn=1, losses=3)
                for value in set(all_states(wider)) | {(needs, None)[:many] for needs in (0, 1)}:
                    self.assertIs(is_state(game, value), value in every)
                for value in every:
                    self.assertIs(is_state(game=game, value=value), True)
                    self.assertIs(is_state(game, value[::-1]), value[::-1] in every)
                    self.assertIs(is_state(game, list(value)), False)

    def test_no_states(self):
        for value in NO_STATES:
            self.assertIs(is_state(GAME, value), False)
            for call in (useful, reached):
                self.raises(BadState(value), call, GAME, value)
            for call in (answered, silent):
                self.raises(BadState(value), call, GAME, value, None)

    def test_widths_that_cannot_be(self):
        for value in ((None, 0, 0), (None, None, 1), (0, 0, None), (None, 1, None), (0, 1, 1), (1, 1, 1)):
            self.assertIs(is_state(GAME, value), True)

    def test_no_games(self):
        for value in NO_INTEGERS + NO_LISTS + [Same(), Game]:
            self.raises(BadPart("game"), start, value)
            for call in (is_state, useful, reached, state_of):
                self.raises(BadPart("game"), call, value, None)
            for call in (answered, silent):
                self.raises(BadPart("game"), call, value, None, None)


class ProbeTest(Case):
    def test_useful_places(self):
        self.same(useful(GAME, (0, 0, 0)), (1, 2))
        self.same(useful(GAME, (None, 0, 1)), (2,))
        self.same(useful(GAME, (0, 0, None)), (1,))
        self.same(useful(game=GAME, state=(None, 1, None)), ())

    def test_states_behind_probes(self):
        self.same(answered(GAME, (0, 0, 1), 1), (None, 0, 1))
        self.same(answered(game=GAME, state=(0, 0, 0), place=2), (None, None, 0))
        self.same(silent(GAME, (0, 0, 0), 1), (0, 1, 1))
        self.same(silent(game=GAME, state=(0, 0, 1), place=1), (0, 1, None))
        self.same(silent(GAME, (0, 1, 1), 1), (0, None, None))

    def test_by_the_words(self):
        roll = dice(101)
        for _ in range(400):
            game = random_game(roll, 6)
            state = random_state(roll, game)
            self.assertIs(is_state(game, state), True)
            places = plain_useful(state)
            self.same(useful(game, state), tuple(places))
            for place in range(-1, len(game.widths) + 1):
                if place in places:
                    heard, unheard = plain_behind(game, state, place)
                    self.same((answered(game, state, place), silent(game, state, place)), (heard, unheard))
                else:
                    self.raises(BadProbe(place), answered, game, state, place)
                    self.raises(BadProbe(place), silent, game, state, place)

    def test_no_places(self):
        for value in NO_INTEGERS + [0, 3, -1, "go", Same()]:
            for call in (answered, silent):
                self.raises(BadProbe(value), call, GAME, (0, 0, 0), value)
                self.raises(BadProbe(value), call, GAME, (None, 0, None), value)
        # True is no place, although it equals 1.
        self.raises(BadProbe(True), answered, GAME, (0, 0, 0), True)


class LogTest(Case):
    def test_states_behind_logs(self):
        self.same(state_of(GAME, []), (0, 0, 0))
        self.same(state_of(GAME, [(2, False), (1, True)]), (None, 0, 1))
        self.same(state_of(game=GAME, log=((1, False), (1, False))), (0, None, None))

    def test_by_the_words(self):
        roll = dice(102)
        for _ in range(500):
            game = random_game(roll, 6)
            log = []
            for _ in range(roll.randrange(8)):
                places = plain_useful(plain_state(game, log))
                if places:
                    log.append((roll.choice(places), roll.random() < 0.5))
            self.same(state_of(game, log), plain_state(game, log))

    def test_wrong_logs(self):
        for value in NO_LISTS:
            self.raises(BadLog(None), state_of, GAME, value)
        wrong = [None, True, 1, (), (1,), [1, True], (1, True, True), (1, 1), (1, None), (1, 0), (True, True), (0, True),
                 (3, True), (-1, False), ("1", True), (None, True), (Prickly(), True), (1, Prickly()), Prickly(), Same(),
                 (Same(), True), (1, Same()), "ab"]
        for entry in wrong:
            self.raises(BadLog(0), state_of, GAME, [entry, None])
            self.raises(BadLog(1), state_of, GAME, ((2, False), entry, None))

    def test_entries_that_are_not_useful_there(self):
        self.raises(BadLog(1), state_of, GAME, [(2, True), (1, True)])
        self.raises(BadLog(2), state_of, GAME, [(1, False), (1, False), (1, True), None])
        self.raises(BadLog(2), state_of, GAME, [(2, False), (1, True), (1, True)])


class ReachedTest(Case):
    def test_order(self):
        game = Game([10, 20], [40, 20], least=1, most=1, turn=2, losses=1)
        self.same(reached(game, (0, 0)), ((0, 0), (None, 0), (0, 1), (None, 1), (0, None)))
        self.same(reached(game=game, state=(None, 1)), ((None, 1),))
        self.same(reached(GAME, (0, 0, 1)), (
            (0, 0, 1), (None, 0, 1), (0, 1, None), (None, None, 1), (0, 0, None), (None, 0, None), (None, 1, None),
            (0, None, None)))

    def test_by_the_words(self):
        roll = dice(103)
        for _ in range(100):
            game = random_game(roll, 5)
            state = random_state(roll, game)
            found = [state]
            for ahead in found:
                for place in plain_useful(ahead):
                    for behind in plain_behind(game, ahead, place):
                        if behind not in found:
                            found.append(behind)
            self.same(reached(game, state), tuple(found))

    def test_many_states(self):
        game = Game(list(range(1, 9)), [9] * 8, least=1, most=1, turn=1, losses=3)
        self.same(len(set(reached(game, start(game)))), len(reached(game, start(game))))
