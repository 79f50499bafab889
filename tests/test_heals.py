"""[43]: the least sets of changes that heal a line, and the least settings."""

from itertools import combinations

from tests.help import NO_INTEGERS, NO_LISTS, Case, Prickly, Same, dice
from tests.plainlines import LINE, hasty_line, line_with, random_line
from tests.test_linetimes import BARRED
from wholeline.bars import bars
from wholeline.errors import BadMenu, BadPart, WholeError
from wholeline.heals import heals, least_setting
from wholeline.letters import Mail
from wholeline.linetimes import greatest_time
from wholeline.steps import Room, Steps
from wholeline.ways import Way


def plain_heals(line, menu):
    """All least heals, by all lots."""
    healing = {}
    for many in range(len(menu) + 1):
        for lot in combinations(range(len(menu)), many):
            try:
                told = line
                for index in lot:
                    told = told.changed(menu[index])
            except WholeError:
                continue
            if not bars(told):
                healing[lot] = greatest_time(told)
    return [
        (lot, time) for lot, time in healing.items()
        if not any(set(other) < set(lot) for other in healing)
    ]


def random_change(roll, line):
    way = roll.randrange(len(line.ways))
    return roll.choice([
        ("turn", roll.randrange(0, 30)), ("turn", roll.randrange(4, 13)), ("numbers", roll.randrange(1, 10)),
        ("numbers", 8), ("room", roll.randrange(0, 30)), ("room", 60), ("period", roll.randrange(1, 12)),
        ("head", roll.randrange(0, 4)), ("bound", roll.randrange(0, 6)), ("bound", 1), ("begin", way, None),
        ("begin", way, roll.randrange(3)), ("begin", way, 1001),
    ])


class HealsTest(Case):
    def test_each_bar(self):
        self.same(heals(line=BARRED["ways"], menu=[("begin", 0, 5), ("turn", 9)]), [])
        self.same(heals(BARRED["width"], [("head", 1), ("head", 2)]), [((0,), greatest_time(BARRED["width"].changed(("head", 1))))])
        told = heals(BARRED["room"], [("room", 11), ("bound", 3), ("room", 9)])
        self.same([lot for lot, _ in told], [(0,), (1,)])
        told = heals(BARRED["numbers"], (("numbers", 4), ("turn", 5), ("turn", 6), ("begin", 1, None)))
        # A way less leaves as many as may be silent.
        self.same([lot for lot, _ in told], [(0,), (2,)])
        told = heals(BARRED["boxes"], [("turn", 11), ("period", 4), ("turn", 4), ("begin", 0, None), ("begin", 0, 20)])
        self.same([lot for lot, _ in told], [(0,), (1,)])

    def test_no_bar(self):
        for menu in ([], (), [("turn", 20)], [("turn", 1)] * 6):
            self.same(heals(LINE, menu), [((), 78)])

    def test_a_change_behind_another_one(self):
        # The turn is too short for the first way as long as it is planned.
        ways = [Way(0, 1, 2, [(0, 1, 5, 5)]), Way(0, 1, 1), Way(0, 1, 1)]
        line = line_with(ways=ways, turn=4)
        self.same(bars(line), [("boxes", 0, 0)])
        self.same([lot for lot, _ in heals(line, [("begin", 0, None), ("turn", 3)])], [(0,)])
        both = line_with(ways=[Way(0, 1, 2, [(0, 1, 1, 1)]), Way(None, 1, 3, [(0, 1, 99, 99)])], turn=5, silent=0)
        # The second way asks for a turn of 6, and the first one must go.
        menu = [("begin", 1, 0), ("turn", 6), ("begin", 0, None)]
        self.same([lot for lot, _ in heals(both, menu)], [])
        menu = [("turn", 6), ("begin", 1, 0), ("begin", 0, None)]
        self.same([lot for lot, _ in heals(both, menu)], [(0, 1, 2)])

    def test_a_later_change_of_the_same_kind(self):
        line = BARRED["numbers"]
        # Only the last one of both counts, in their order.
        self.same([lot for lot, _ in heals(line, [("turn", 12), ("turn", 4)])], [(0,)])
        self.same([lot for lot, _ in heals(line, [("turn", 4), ("turn", 12)])], [(1,)])
        self.same([lot for lot, _ in heals(line, [("turn", 12), ("turn", 12)])], [(0,), (1,)])

    def test_all_lots(self):
        roll = dice(471)
        sizes = {}
        for many in range(260):
            line = hasty_line(roll) if many % 3 == 0 else random_line(roll, silent=roll.choice([0, 0, 1]))
            menu = [random_change(roll, line) for _ in range(roll.randrange(7))]
            told = heals(line, menu)
            self.same(told, plain_heals(line, menu))
            for lot, _ in told:
                sizes[len(lot)] = sizes.get(len(lot), 0) + 1
        self.assertEqual(set(sizes) & {0, 1, 2, 3}, {0, 1, 2, 3}, sizes)

    def test_six_changes_and_seven(self):
        menu = [("numbers", 4)] * 6
        self.same([lot for lot, _ in heals(BARRED["numbers"], menu)], [(index,) for index in range(6)])
        self.raises(BadMenu(None), heals, BARRED["numbers"], [("numbers", 4)] * 7)
        self.raises(BadMenu(None), heals, BARRED["numbers"], [None] * 7)

    def test_menus_that_are_none(self):
        for value in NO_LISTS:
            self.raises(BadMenu(None), heals, LINE, value)
        for value in NO_INTEGERS + [("quiet", 4), ("turn", None), ["turn", 4], ("begin", 2, 0), ("begin", 0, True), Same(), 4,
                                    ("turn", Prickly()), ("bound", 4, 4)]:
            self.raises(BadMenu(0), heals, LINE, [value])
            self.raises(BadMenu(2), heals, LINE, (("turn", 9), ("turn", -5), value, None))

    def test_the_menu_is_not_changed(self):
        menu = [("turn", 6), ("numbers", 4)]
        heals(BARRED["numbers"], menu).clear()
        self.same(menu, [("turn", 6), ("numbers", 4)])
        self.same(len(heals(BARRED["numbers"], menu)), 2)


class SettingTest(Case):
    def plain(self, line, word):
        values = {"numbers": range(2, 9), "room": range(1, 61), "silent": range(4), "losses": range(1, 4)}[word]
        good = []
        for value in values:
            setting = Room(value, line.room.steps) if word == "room" else value
            if not bars(line.with_setting(word, setting)):
                good.append(value)
        if not good:
            return None
        return min(good) if word in ("numbers", "room") else max(good)

    def test_all_values(self):
        roll = dice(472)
        told = {}
        for many in range(80):
            line = hasty_line(roll) if many % 2 else random_line(roll)
            for word in ("numbers", "room", "silent", "losses"):
                value = least_setting(line, word)
                self.same(value, self.plain(line, word))
                told.setdefault(word, set()).add(value)
        for word, values in told.items():
            self.assertIn(None, values)
            self.assertGreater(len(values), 2, word)

    def test_ends_of_their_ranges(self):
        one = line_with(mail=Mail([[((), 1)]]), ways=[Way(0, 1, 2)] * 4, room=Room(30, Steps([1])), silent=0)
        self.same([least_setting(one, word) for word in ("numbers", "room", "silent", "losses")], [2, 1, 3, 3])
        boxed = one.with_setting("ways", [Way(0, 1, 2, [(0, 1, 17, 60)])])
        # Three losses make a gap of 4 + 36; one loss leaves 16, the slack of the box.
        self.same(least_setting(line=boxed, word="losses"), 1)
        self.same(least_setting(boxed, "silent"), 0)
        great = line_with(mail=Mail([[((), 60)]]), ways=[Way(0, 1, 2)], room=Room(1, Steps([1])), silent=0)
        self.same(least_setting(great, "room"), 60)
        self.same(least_setting(great.with_setting("mail", Mail([[(("ab",), 60)]])), "room"), None)
        # So many numbers that they are all that there are.
        slow = line_with(mail=Mail([[((), 30)]]), ways=[Way(0, 1, 7)], turn=10, silent=0, room=Room(40, Steps([1])), widths=[3])
        self.same([least_setting(slow, "numbers"), least_setting(slow.with_setting("ways", [Way(0, 1, 8)]), "numbers")], [8, None])
        self.same(least_setting(LINE.with_setting("ways", [Way(None, 1, 1)]), "silent"), None)

    def test_other_words(self):
        for word in NO_INTEGERS + ["turn", "ways", "head", "period", "Numbers", "size", 0, Same(), ("room",)]:
            self.raises(BadPart(word), least_setting, LINE, word)
