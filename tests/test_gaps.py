"""[27], [28]: stops and gaps."""

from tests.help import NO_INTEGERS, NO_LISTS, Case, dice
from tests.plainroads import RoadSearch
from wholeline.boxes import Lull, Road
from wholeline.errors import BadNumber, BadSign
from wholeline.gaps import (gap_kind, greatest_gap, is_kept, period_signs, quiet_gap, race_gap, rest_gap, row_gap,
                            stops)
from wholeline.ways import Way

LULL = Lull(1, 2, 1, 20)


class StopsTest(Case):
    def test_stops(self):
        self.same(stops(LULL, ()), (-2, 20, 22))
        self.same(stops(LULL, [3, 19]), (-2, 3, 19, 20, 22))
        self.same(stops(lull=Lull(5, 11, 3, 7), signs=(1, 6)), (-10, 1, 6, 7, 18, 29, 40))

    def test_quiet_gap(self):
        self.same(quiet_gap(LULL, ()), 24)
        self.same(quiet_gap(LULL, (3, 4, 9, 10, 15, 16)), 6)
        self.same(quiet_gap(lull=Lull(5, 11, 3, 7), signs=[1, 6]), 34)
        self.same(quiet_gap(Lull(1, 100, 1, 100), [50]), 150)
        self.same(quiet_gap(Lull(1, 100, 1, 100), [99]), 102)
        # The edges: the first place, one between, and the last one.
        self.same(quiet_gap(LULL, [12, 13]), 15)
        self.same(quiet_gap(LULL, [1, 16]), 19)
        self.same(quiet_gap(LULL, [1, 2]), 20)

    def test_one_sign_more_never_makes_it_greater(self):
        roll = dice(71)
        for _ in range(500):
            lull = Lull(1, roll.randrange(2, 12), roll.randrange(1, 4), roll.randrange(2, 30))
            signs = sorted(roll.sample(range(1, lull.quiet), roll.randrange(lull.quiet)))
            free = [moment for moment in range(1, lull.quiet) if moment not in signs]
            told = stops(lull, signs)
            apart = [told[at + lull.losses + 1] - told[at] for at in range(len(signs) + 1)]
            self.same(quiet_gap(lull, signs), max(apart))
            for moment in free:
                self.assertLessEqual(quiet_gap(lull, sorted([*signs, moment])), max(apart))

    def test_wrong_signs(self):
        for call in (stops, quiet_gap):
            for value in NO_LISTS:
                self.raises(BadSign(0), call, LULL, value)
            for value in NO_INTEGERS + [0, -1, 20, 21]:
                self.raises(BadSign(0), call, LULL, [value, 5])
                self.raises(BadSign(2), call, LULL, (1, 2, value, None))
            self.raises(BadSign(1), call, LULL, [3, 3, None])
            self.raises(BadSign(2), call, LULL, [3, 5, 4, 3])
            self.raises(BadSign(0), call, Lull(1, 2, 1, 1), [1])

    def test_signs_are_not_changed(self):
        signs = [3, 4]
        told = stops(LULL, signs)
        signs.append(5)
        self.same(told, (-2, 3, 4, 20, 22))


class PeriodTest(Case):
    def test_signs(self):
        self.same(period_signs(LULL, 9), (9, 18))
        self.same(period_signs(LULL, 10), (10,))
        self.same(period_signs(lull=LULL, period=19), (19,))
        self.same(period_signs(LULL, 20), ())
        self.same(period_signs(LULL, 200), ())
        self.same(period_signs(Lull(1, 2, 1, 1), 1), ())
        self.same(period_signs(Lull(1, 2, 1, 500), 1), tuple(range(1, 500)))
        for value in NO_INTEGERS + [0, 201, -1]:
            self.raises(BadNumber(value), period_signs, LULL, value)


class GapsTest(Case):
    def test_a_road_with_all_gaps(self):
        road = Road(Way(3, 1, 10, [(1, 4, 9, 20)]), 20, 20, 2, [3, 1], 30, 7)
        self.same([race_gap(road), row_gap(road), rest_gap(road)], [57, 60, 42])
        self.same([greatest_gap(road), gap_kind(road), is_kept(road)], [60, "row", False])
        self.same(rest_gap(road=road), quiet_gap(Lull(10, 20, 2, 30), (7, 14, 21, 28)))

    def test_gaps_that_there_are_not(self):
        way = Way(0, 1, 2)
        road = Road(way, 3, 4, 1, [1], 5, 5)
        self.same([race_gap(road), row_gap(road), rest_gap(road), greatest_gap(road)], [7, None, None, 7])
        self.same(gap_kind(road), "race")
        self.same([row_gap(Road(way, 4, 4, 1, rows, 5, 5)) for rows in ([2], [1, 2], [1, 1, 2], [1, 1, 1])], [8, 8, 8, None])
        self.same([rest_gap(Road(way, 4, 4, 1, rows, 5, 5)) for rows in ([600], [1, 1], [2, 1, 1])], [None, 13, 13])

    def test_the_first_word_with_the_greatest_gap(self):
        way = Way(0, 1, 2)
        # The race takes just as long as an answer: its gap is that of the row.
        self.same(gap_kind(Road(way, 4, 4, 1, [2], 1, 1)), "race")
        self.same(gap_kind(Road(way, 3, 4, 1, [2], 1, 1)), "row")
        # With signs at each moment the quiet gap is that of the row.
        road = Road(way, 3, 5, 1, [2, 1], 2, 1)
        self.same([row_gap(road), rest_gap(road), gap_kind(road)], [9, 6, "row"])
        road = Road(way, 3, 5, 1, [1, 1], 4, 4)
        self.same([race_gap(road), rest_gap(road), gap_kind(road)], [8, 13, "quiet"])
        road = Road(way, 3, 4, 1, [2, 1], 4, 3)
        self.same([race_gap(road), row_gap(road), rest_gap(road), gap_kind(road)], [7, 8, 8, "row"])

    def test_a_slack_that_is_just_enough(self):
        for least, kept in ((11, False), (12, True), (13, True)):
            way = Way(0, 1, 2, [(0, 0, 8, 8), (1, 2, least - 3, 99)])
            self.assertIs(is_kept(Road(way, 4, 4, 1, [2], 1, 1)), least - 4 >= 8)
            self.assertIs(kept, least - 4 >= 8)
        self.assertIs(is_kept(Road(Way(0, 1, 2), 4, 4, 1, [2], 1, 1)), True)
        self.assertIs(is_kept(road=Road(Way(0, 1, 2, [(0, 0, 9, 9), (0, 0, 7, 9)]), 4, 4, 1, [2], 1, 1)), False)

    def test_over_all_runs(self):
        roll = dice(72)
        kinds = set()
        for _ in range(300):
            least = roll.randrange(1, 3)
            most = roll.randrange(least, 4)
            way = Way(roll.randrange(3), least, most)
            last = roll.randrange(way.window()[0], way.window()[1] + 1)
            rows = [roll.randrange(1, 4) for _ in range(roll.randrange(1, 4))]
            road = Road(way, last, roll.randrange(2 * most, 2 * most + 5), roll.randrange(1, 4), rows,
                        roll.randrange(1, 12), roll.randrange(1, 9))
            gaps = RoadSearch(road).all_gaps()
            self.same(greatest_gap(road), max(gap for _, gap in gaps))
            for kind, gap in (("race", race_gap(road)), ("row", row_gap(road)), ("quiet", rest_gap(road))):
                self.same(gap, max([told for word, told in gaps if word == kind], default=None))
            kinds.add(gap_kind(road))
        self.assertEqual(kinds, {"race", "row", "quiet"})
