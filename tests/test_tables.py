"""[35]: tables."""

from tests.help import NO_INTEGERS, NO_LISTS, Case, Prickly, Same, dice
from tests.plaingames import plain_behind, plain_useful, random_game, random_state
from tests.test_states import NO_STATES
from wholeline.errors import BadPart, BadState, BadTable
from wholeline.regret import go_late, late
from wholeline.states import is_state, reached
from wholeline.tables import check_table, told_table
from wholeline.widths import Game, bases

GAME = Game([10, 20], [40, 20], least=1, most=1, turn=2, losses=1)
DUES = (81, 41)
TABLE = [((0, 0), 4), ((None, 0), 0), ((0, 1), 2), ((None, 1), -2), ((0, None), 0)]


def plain_pair(game, item):
    return (isinstance(item, tuple) and len(item) == 2 and is_state(game, item[0]) and isinstance(item[1], int)
            and not isinstance(item[1], bool))


def plain_check(game, state, dues, table):
    """What check_table gives back, or the value of its BadTable, by the words of [35]."""
    pairs = [item for item in table if plain_pair(game, item)]
    for index, item in enumerate(table):
        if not plain_pair(game, item):
            return (index, "pair")
        told, number = item
        if number > go_late(game, told, dues):
            return (index, "go")
        for place in plain_useful(told):
            behind = plain_behind(game, told, place)
            if not any(other in behind and bound >= number - 2 * game.most for other, bound in pairs):
                return (index, "probe")
    numbers = [number for told, number in table if told == state]
    return max(numbers) if numbers else (len(table), "start")


class ToldTableTest(Case):
    def test_the_example(self):
        self.same(told_table(GAME, (0, 0), DUES), TABLE)
        self.same(check_table(GAME, (0, 0), DUES, TABLE), 4)
        self.same(told_table(game=GAME, state=(None, 1), dues=DUES), [((None, 1), -2)])

    def test_all_of_reached(self):
        roll = dice(131)
        for _ in range(80):
            game = random_game(roll, 5)
            state = random_state(roll, game)
            dues = [roll.randrange(-50, 150) for _ in game.widths] if roll.random() < 0.5 else list(bases(game))
            table = told_table(game, state, dues)
            self.same(table, [(told, late(game, told, dues)) for told in reached(game, state)])
            self.same(check_table(game, state, dues, table), late(game, state, dues))

    def test_lists_are_new(self):
        told_table(GAME, (0, 0), DUES).clear()
        self.same(told_table(GAME, (0, 0), DUES), TABLE)


class CheckTableTest(Case):
    def wrong(self, value, table, state=(0, 0)):
        self.raises(BadTable(value), check_table, GAME, state, DUES, table)

    def test_an_entry_left_out(self):
        # Behind each probe one state is enough: here that of the silence.
        for index in range(1, 5):
            table = TABLE[:index] + TABLE[index + 1:]
            value = plain_check(GAME, (0, 0), DUES, table)
            if isinstance(value, tuple):
                self.wrong(value, table)
            else:
                self.same(check_table(GAME, (0, 0), DUES, table), value)
        self.wrong((0, "probe"), [TABLE[0]])
        self.wrong((1, "probe"), [TABLE[4], TABLE[0]])
        self.same(check_table(GAME, (0, 0), DUES, [TABLE[0], TABLE[2], TABLE[4]]), 4)

    def test_no_entry_for_the_state(self):
        self.wrong((4, "start"), TABLE[1:])
        self.wrong((0, "start"), [])
        self.same(check_table(GAME, (0, None), DUES, TABLE), 0)

    def test_a_doubled_entry(self):
        self.same(check_table(GAME, (0, 0), DUES, TABLE + TABLE), 4)
        self.same(check_table(game=GAME, state=(0, 0), dues=DUES, table=[((0, 0), 1), *TABLE, ((0, 0), -3)]), 4)
        # The greatest number for a state counts for others, wherever it stands.
        self.same(check_table(GAME, (0, 0), DUES, [((0, 1), -9), *TABLE]), 4)

    def test_too_great_for_going(self):
        self.wrong((3, "go"), TABLE[:3] + [((None, 1), -1)] + TABLE[4:])
        self.wrong((0, "go"), [((0, 0), 41)])
        self.wrong((0, "go"), [((None, 0), 1), None])

    def test_too_great_for_a_useful_place(self):
        self.wrong((0, "probe"), [((0, 0), 5), *TABLE[1:]])
        self.wrong((2, "probe"), TABLE[:2] + [((0, 1), 3)] + TABLE[3:])
        self.same(check_table(GAME, (0, 0), DUES, [((0, 0), 3), *TABLE[1:]]), 3)

    def test_order_of_the_words(self):
        # The first wrong item counts, then the first word for it.
        self.wrong((1, "pair"), [((None, 0), 0), None, ((0, 0), 99)])
        self.wrong((0, "probe"), [((0, 0), 4), None])
        self.wrong((0, "go"), [((0, 0), 99), None])

    def test_wrong_items_that_count_for_others(self):
        # An item with the word go counts for one ahead of it, and is then told itself.
        self.wrong((1, "go"), [((0, 0), 4), ((0, 1), 99)])
        self.wrong((1, "probe"), [((0, 0), 4), ((0, 1), 2)])
        self.wrong((0, "probe"), [((0, 0), 4), [(0, 1), 2]])

    def test_items_that_are_no_pairs(self):
        for item in NO_INTEGERS + NO_LISTS + [
            ((0, 0),), ((0, 0), 4, 4), [(0, 0), 4], ([0, 0], 4), ((0, 0), True), ((0, 0), "4"), ((0, 0), None), ((0, 0), 4.0),
            ((False, 0), 4), ((1, 0), 4), ((None, None), 4), ((0, 0, 0), 4), (4, (0, 0)), (Same(), 4), ((0, 0), Same()), Same(),
        ]:
            self.wrong((0, "pair"), [item, None])
            self.wrong((5, "pair"), TABLE + [item])

    def test_what_it_says_is_so(self):
        roll = dice(132)
        good = 0
        words = set()
        for _ in range(1500):
            game = random_game(roll, 3)
            state = random_state(roll, game)
            dues = bases(game)
            table = [(told, number - roll.choice([0, 0, 0, 1, 2, 5, -1, -9])) for told, number in told_table(game, state, dues)]
            table = [item for item in table if roll.random() < 0.9]
            roll.shuffle(table)
            if roll.random() < 0.1:
                table.insert(roll.randrange(len(table) + 1), None)
            value = plain_check(game, state, dues, table)
            if isinstance(value, tuple):
                self.raises(BadTable(value), check_table, game, state, dues, table)
                words.add(value[1])
            else:
                self.same(check_table(game, state, dues, table), value)
                self.assertLessEqual(value, late(game, state, dues))
                good += 1
        self.assertEqual(words, {"pair", "go", "probe", "start"})
        self.assertGreater(good, 100)

    def test_errors_in_their_order(self):
        for value in NO_INTEGERS + [Same()]:
            self.raises(BadPart("game"), check_table, value, None, None, None)
            self.raises(BadPart("game"), told_table, value, None, None)
        game = Game([10, 20, 30], [40, 20, 10], least=1, most=2, turn=9, losses=1)
        for value in NO_STATES:
            self.raises(BadState(value), check_table, game, value, None, None)
            self.raises(BadState(value), told_table, game, value, None)
        for value in NO_LISTS + [[], [1], [1, 2, 3], [1, True]]:
            self.raises(BadPart("dues"), check_table, GAME, (0, 0), value, None)
            self.raises(BadPart("dues"), told_table, GAME, (0, 0), value)
        # What a checker judges is just as described: a tuple is no list.
        for value in NO_LISTS + [(), tuple(TABLE), dict(TABLE)]:
            self.raises(BadPart("table"), check_table, GAME, (0, 0), list(DUES), value)
        self.raises(BadTable((0, "pair")), check_table, GAME, (0, 0), DUES, [Prickly()])
