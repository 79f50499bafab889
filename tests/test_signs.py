"""[28]: good periods, the fewest signs and best signs."""

from itertools import combinations

from tests.help import NO_INTEGERS, Case, dice
from wholeline.boxes import Lull
from wholeline.errors import BadNumber
from wholeline.gaps import period_signs, quiet_gap
from wholeline.signs import best_signs, fewest_signs, good_periods

LULL = Lull(1, 2, 1, 20)
LONG = Lull(1, 100, 1, 100)


def plain_periods(lull, limit):
    return [period for period in range(1, 201) if quiet_gap(lull, period_signs(lull, period)) <= limit]


class PeriodsTest(Case):
    def test_a_longer_period_may_do(self):
        self.same(good_periods(LONG, 102), [(1, 3), (7, 7), (9, 9), (11, 11), (14, 14), (33, 33), (49, 49), (98, 99)])
        self.same(fewest_signs(LONG, 102), (1, 99))
        self.same(good_periods(lull=LONG, limit=101), [(1, 1), (3, 3), (9, 9), (11, 11), (33, 33)])
        self.same(fewest_signs(lull=LONG, limit=101), (3, 33))

    def test_the_greatest_of_those_with_as_few(self):
        self.same(fewest_signs(LULL, 6), (9, 2))
        # No signs are needed: all periods behind the quiet do, and those that have some, too.
        self.same(fewest_signs(LULL, 24), (0, 200))
        self.same(good_periods(LULL, 24), [(1, 200)])
        self.same(fewest_signs(LULL, 23), (1, 19))

    def test_none(self):
        self.same(good_periods(LONG, 100), [])
        self.assertIsNone(fewest_signs(LONG, 100))
        self.same(good_periods(LULL, 1), [])

    def test_spans_are_as_long_as_can_be(self):
        roll = dice(73)
        split = 0
        for _ in range(120):
            delay = roll.randrange(1, 9)
            lull = Lull(delay, roll.randrange(2 * delay, 60), roll.randrange(1, 4), roll.randrange(1, 501))
            limit = roll.randrange(1, 2 * delay + lull.quiet + 60)
            good = plain_periods(lull, limit)
            spans = good_periods(lull, limit)
            self.same([period for low, high in spans for period in range(low, high + 1)], good)
            self.assertTrue(all(high + 1 < low for (_, high), (low, _) in zip(spans, spans[1:])))
            split += len(spans) > 1
            fewest = min([len(period_signs(lull, period)) for period in good], default=None)
            greatest = max([period for period in good if len(period_signs(lull, period)) == fewest], default=None)
            self.same(fewest_signs(lull, limit), None if not good else (fewest, greatest))
        self.assertTrue(split)

    def test_lists_are_new(self):
        good_periods(LULL, 24).append(1)
        self.same(good_periods(LULL, 24), [(1, 200)])

    def test_wrong_limits(self):
        for call in (good_periods, fewest_signs, best_signs):
            for value in NO_INTEGERS + [0, -1, 20001]:
                self.raises(BadNumber(value), call, LULL, value)
            self.assertTrue(call(LULL, 20000) is not None)


class BestSignsTest(Case):
    def test_the_example(self):
        self.same(best_signs(lull=LULL, limit=6), (3, 4, 9, 10, 15, 16))

    def test_edges(self):
        self.same(best_signs(LULL, 24), ())
        self.same(best_signs(LULL, 23), (19,))
        self.assertIsNone(best_signs(LULL, 1))
        self.assertIsNone(best_signs(Lull(1, 2, 1, 1), 4))
        self.same(best_signs(Lull(1, 2, 1, 1), 5), ())
        self.same(best_signs(LONG, 102), (99,))
        self.same(best_signs(LONG, 101), (98, 99))
        self.assertIsNone(best_signs(LONG, 100))
        # All moments are needed.
        self.same(best_signs(Lull(1, 2, 1, 500), 4), tuple([at for at in range(1, 500) if at % 4 in (1, 2)][:250]))

    def test_against_all_signs(self):
        found = 0
        for delay in (1, 2, 3):
            for turn in (2 * delay, 2 * delay + 3):
                for losses in (1, 2, 3):
                    for quiet in range(1, 10):
                        lull = Lull(delay, turn, losses, quiet)
                        found += self.check(lull)
        self.assertGreater(found, 500)

    def check(self, lull):
        every = [[(quiet_gap(lull, signs), signs) for signs in combinations(range(1, lull.quiet), many)]
                 for many in range(lull.quiet)]
        found = 0
        for limit in range(1, quiet_gap(lull, ()) + 2):
            fitting = [[signs for gap, signs in rows if gap <= limit] for rows in every]
            fewest = [rows for rows in fitting if rows]
            if not fewest:
                self.assertIsNone(best_signs(lull, limit))
            else:
                best = best_signs(lull, limit)
                self.assertIn(best, fewest[0])
                self.same(best, tuple(max(signs[at] for signs in fewest[0]) for at in range(len(best))))
                found += 1
        return found

    def test_long_lulls(self):
        roll = dice(74)
        for _ in range(60):
            delay = roll.randrange(1, 51)
            lull = Lull(delay, roll.randrange(2 * delay, 201), roll.randrange(1, 4), roll.randrange(100, 501))
            limit = roll.randrange(1, quiet_gap(lull, ()) + 2)
            best = best_signs(lull, limit)
            if best is not None:
                self.assertLessEqual(quiet_gap(lull, best), limit)
                for at in range(len(best)):
                    # No sign can be later while all other ones stay, and none can be left out.
                    later = best[:at] + (best[at] + 1,) + best[at + 1:]
                    if len(set(later)) == len(later) and later[at] < lull.quiet:
                        self.assertGreater(quiet_gap(lull, later), limit)
                    self.assertGreater(quiet_gap(lull, best[:at] + best[at + 1:]), limit)
            else:
                self.assertGreater(quiet_gap(lull, tuple(range(1, lull.quiet))), limit)
