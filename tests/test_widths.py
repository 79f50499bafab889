"""[31]: games."""

from tests.help import NO_INTEGERS, NO_LISTS, Case, Same
from wholeline.errors import BadOrder, BadPart
from wholeline.widths import Game, bases

NAMED = {"least": 1, "most": 2, "turn": 9, "losses": 1}


class GameTest(Case):
    def test_attributes(self):
        widths, counts = [10, 20], [40, 20]
        game = Game(widths, counts, **NAMED)
        widths.append(30)
        counts.append(10)
        self.same((game.widths, game.counts), ((10, 20), (40, 20)))
        self.same((game.least, game.most, game.turn, game.losses, len(game)), (1, 2, 9, 1, 2))
        game = Game(widths=(1,), counts=(5000,), least=50, most=50, turn=200, losses=3)
        self.same((game.widths, game.counts, len(game)), ((1,), (5000,), 1))
        self.same(len(Game(range_list(1, 8), [5] * 8, least=1, most=1, turn=1, losses=0)), 8)
        self.not_iterated(game)

    def test_the_numbers_are_passed_by_name(self):
        with self.assertRaises(TypeError):
            Game([1], [1], 1, 1, 1, 1)

    def test_wrong_widths(self):
        for value in NO_LISTS + [[], (), list(range(1, 10))]:
            self.raises(BadPart("widths"), Game, value, None, **NAMED)
        for value in NO_INTEGERS + [0, 101, -1]:
            self.raises(BadPart("widths"), Game, [value], None, **NAMED)
            self.raises(BadPart("widths"), Game, (5, 5, value), None, **NAMED)
        self.raises(BadOrder(1), Game, [5, 5, 4], None, **NAMED)
        self.raises(BadOrder(2), Game, [4, 5, 3], [1], **NAMED)
        self.same(Game([1, 100], [1, 1], **NAMED).widths, (1, 100))

    def test_wrong_counts(self):
        for value in NO_LISTS + [[], (), [1], [1, 1, 1]]:
            self.raises(BadPart("counts"), Game, [1, 2], value, least=0, most=0, turn=0, losses=9)
        for value in NO_INTEGERS + [0, 5001, -1]:
            self.raises(BadPart("counts"), Game, [1, 2], [1, value], **NAMED)
        self.raises(BadOrder(1), Game, [1, 2, 3], [5, 6, 7], least=0, most=0, turn=0, losses=9)
        self.raises(BadOrder(2), Game, [1, 2, 3], [5, 5, 6], **NAMED)
        self.same(Game([1, 2, 3], [5, 5, 5], **NAMED).counts, (5, 5, 5))

    def test_wrong_numbers(self):
        wrong = {"least": [0, 51], "most": [1, 51], "turn": [0, 201], "losses": [-1, 4]}
        named = {"least": 2, "most": 3, "turn": 1, "losses": 0}
        names = list(wrong)
        for place, name in enumerate(names):
            for value in NO_INTEGERS + wrong[name]:
                # Those behind it are wrong, too.
                parts = {**named, name: value, **{behind: None for behind in names[place + 1:]}}
                self.raises(BadPart(name), Game, [1], [1], **parts)

    def test_equal(self):
        game = Game([10, 20], [40, 20], **NAMED)
        self.equal_ones(game, Game((10, 20), (40, 20), **NAMED))
        self.unlike_ones(game, Game([10, 21], [40, 20], **NAMED))
        self.unlike_ones(game, Game([10, 20], [41, 20], **NAMED))
        for name, value in (("least", 2), ("most", 3), ("turn", 8), ("losses", 0)):
            self.unlike_ones(game, Game([10, 20], [40, 20], **{**NAMED, name: value}))
        self.unlike_others(game)


def range_list(low, high):
    return list(range(low, high + 1))


class BasesTest(Case):
    def test_bases(self):
        self.same(bases(Game([10, 20], [40, 20], **NAMED)), (79 * 2 + 9, 39 * 2 + 9))
        self.same(bases(game=Game([1], [1], least=1, most=5, turn=200, losses=0)), (5,))
        self.same(bases(Game([1], [5000], least=1, most=50, turn=200, losses=3)), (9999 * 50 + 600,))

    def test_no_games(self):
        for value in NO_INTEGERS + NO_LISTS + [Same(), Game]:
            self.raises(BadPart("game"), bases, value)
