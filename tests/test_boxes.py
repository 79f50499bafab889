"""[27], [28]: boxes, roads and lulls."""

from tests.help import NO_INTEGERS, NO_LISTS, Case
from wholeline.boxes import Lull, Road, lull_of, slack_of, spread_of
from wholeline.errors import BadPart
from wholeline.ways import Way

WAY = Way(3, 1, 10, [(1, 4, 9, 20)])
PARTS = {"way": WAY, "last": 20, "turn": 20, "losses": 2, "rows": [3, 1], "quiet": 30, "period": 7}


class BoxTest(Case):
    def test_spread_and_slack(self):
        self.same([spread_of((1, 4, 9, 20)), slack_of((1, 4, 9, 20))], [3, 6])
        self.same([spread_of(box=(0, 0, 1, 1)), slack_of(box=(0, 0, 1, 1))], [0, 1])
        self.same([spread_of((0, 50, 1, 10000)), slack_of((0, 50, 1, 10000))], [50, -49])


class RoadTest(Case):
    def test_attributes(self):
        rows = [3, 1]
        road = Road(WAY, 20, 20, 2, rows, 30, 7)
        rows.append(1)
        self.same((road.last, road.turn, road.losses, road.rows, road.quiet, road.period), (20, 20, 2, (3, 1), 30, 7))
        self.assertTrue(road.way == WAY)
        self.assertTrue(Road(**PARTS) == road)
        self.not_iterated(road)

    def test_edges(self):
        for last in (5, 23):
            self.same(Road(WAY, last, 20, 1, [1], 1, 1).last, last)
        road = Road(Way(1000, 50, 50), 1100, 200, 3, (600, 600, 600), 500, 200)
        self.same((road.rows, road.turn, road.period), ((600, 600, 600), 200, 200))

    def test_wrong_parts(self):
        wrong = {
            "way": [None, 0, (3, 1, 10), Way(None, 1, 10), "way", object()],
            "last": NO_INTEGERS + [4, 24, -1], "turn": NO_INTEGERS + [19, 0, 201], "losses": NO_INTEGERS + [0, 4],
            "rows": NO_LISTS + [[], (), [1] * 4, [0], [601], [1, True], [1, None]], "quiet": NO_INTEGERS + [0, 501],
            "period": NO_INTEGERS + [0, 201],
        }
        names = list(PARTS)
        for place, name in enumerate(names):
            for value in wrong[name]:
                parts = {**PARTS, name: value}
                self.raises(BadPart(name), Road, **parts)
                # What stands behind it is not looked at.
                self.raises(BadPart(name), Road, *[parts[ahead] for ahead in names[:place + 1]], *[None] * (6 - place))

    def test_equal(self):
        self.equal_ones(Road(**PARTS), Road(**{**PARTS, "rows": (3, 1)}))
        other = {"way": Way(3, 1, 10), "last": 19, "turn": 21, "losses": 3, "rows": [3], "quiet": 31, "period": 8}
        for name, value in other.items():
            self.unlike_ones(Road(**PARTS), Road(**{**PARTS, name: value}))
        self.unlike_others(Road(**PARTS))


class LullTest(Case):
    def test_attributes(self):
        lull = Lull(delay=1, turn=2, losses=3, quiet=4)
        self.same((lull.delay, lull.turn, lull.losses, lull.quiet), (1, 2, 3, 4))
        self.same(Lull(50, 100, 1, 500).turn, 100)
        self.not_iterated(lull)

    def test_wrong_parts(self):
        for value in NO_INTEGERS + [0, 51]:
            self.raises(BadPart("delay"), Lull, value, None, None, None)
        for value in NO_INTEGERS + [0, 9, 201]:
            self.raises(BadPart("turn"), Lull, 5, value, None, None)
        for value in NO_INTEGERS + [0, 4]:
            self.raises(BadPart("losses"), Lull, 5, 10, value, None)
        for value in NO_INTEGERS + [0, 501]:
            self.raises(BadPart("quiet"), Lull, 5, 200, 3, value)

    def test_equal(self):
        self.equal_ones(Lull(1, 2, 1, 20), Lull(1, 2, 1, 20))
        for other in (Lull(2, 4, 1, 20), Lull(1, 3, 1, 20), Lull(1, 2, 2, 20), Lull(1, 2, 1, 21)):
            self.unlike_ones(Lull(1, 2, 1, 20), other)
        self.unlike_ones(Lull(2, 4, 1, 20), Lull(1, 4, 1, 20))
        self.unlike_others(Lull(1, 2, 1, 20))

    def test_lull_of_a_road(self):
        self.equal_ones(lull_of(Road(**PARTS)), Lull(10, 20, 2, 30))
        self.equal_ones(lull_of(road=Road(WAY, 20, 200, 3, [1, 1, 1], 500, 1)), Lull(10, 200, 3, 500))
        self.assertIsNone(lull_of(Road(**{**PARTS, "rows": [600]})))
