"""[27], [29]: logs, and papers that a box can forget."""

from tests.help import Case, Prickly, Same, dice
from tests.plainlogs import plain_forgets, plain_logs
from wholeline.boxes import Road, slack_of, spread_of
from wholeline.boxpapers import forgetting_paper, shows_forgetting
from wholeline.gaps import gap_kind, greatest_gap, is_kept
from wholeline.ways import Way


def random_road(roll, top):
    least = roll.randrange(1, top)
    most = roll.randrange(least, top + 1)
    boxes = []
    for _ in range(roll.randrange(1, 4)):
        near = roll.randrange(least + 1)
        far = roll.randrange(near, most + 1)
        keep = roll.randrange(1, 90)
        boxes.append((near, far, keep, roll.randrange(keep, 100)))
    way = Way(roll.randrange(4), least, most, boxes)
    low, high = way.window()
    rows = [roll.randrange(1, 4) for _ in range(roll.randrange(1, 4))]
    return Road(way, roll.randrange(low, high + 1), roll.randrange(2 * most, 2 * most + 9), roll.randrange(1, 4), rows,
                roll.randrange(1, 50), roll.randrange(1, 30))


class PaperTest(Case):
    def test_a_paper_just_where_a_box_can_forget(self):
        roll = dice(91)
        kinds, firsts = set(), set()
        for _ in range(3000):
            road = random_road(roll, 5)
            value = forgetting_paper(road)
            weak = [index for index, box in enumerate(road.way.boxes) if slack_of(box) < greatest_gap(road)]
            self.assertIs(is_kept(road), not weak)
            if not weak:
                self.assertIsNone(value)
                continue
            self.assertIs(shows_forgetting(road, value), True)
            word, index, first, log = value
            self.same((word, index), ("forgets", weak[0]))
            apart = log[-1][2] - log[first][2]
            self.same(apart, greatest_gap(road) + spread_of(road.way.boxes[index]))
            kinds.add(gap_kind(road))
            firsts.add(index)
        self.assertEqual((kinds, firsts), ({"race", "row", "quiet"}, {0, 1, 2}))

    def test_long_roads(self):
        way = Way(1000, 1, 50, [(1, 50, 10000, 10000), (0, 0, 400, 400)])
        for rows, last, quiet, period, kind in (
            ([600, 600, 600], 1002, 500, 200, "quiet"), ([1, 1, 600], 1002, 10, 1, "row"), ([600], 1100, 500, 1, "race"),
            ([1, 600], 1100, 500, 1, "race"),
        ):
            road = Road(way, last, 110, 3, rows, quiet, period)
            self.same(gap_kind(road), kind)
            value = forgetting_paper(road)
            self.same(value[1], 1)
            self.assertIs(shows_forgetting(road, value), True)

    def test_edges_of_the_slack(self):
        for keep, kept in ((9, False), (10, True)):
            road = Road(Way(0, 1, 2, [(0, 2, keep, 99)]), 4, 4, 1, [2], 1, 1)
            self.same(greatest_gap(road), 8)
            self.assertIs(forgetting_paper(road=road) is None, kept)
        self.assertIsNone(forgetting_paper(Road(Way(0, 1, 2), 4, 4, 1, [2], 1, 1)))

    def test_a_paper_of_any_box(self):
        road = Road(Way(0, 1, 2, [(0, 0, 1, 1), (0, 2, 1, 1), (1, 1, 1, 1)]), 4, 4, 1, [2], 1, 1)
        self.same(forgetting_paper(road)[1], 0)
        log = (("begin", 0, 0, 2), ("parcel", 2, 2, 4))
        self.assertIs(shows_forgetting(road, ("forgets", 0, 0, log)), True)
        # At the third box things come a moment later.
        self.assertIs(shows_forgetting(road, ("forgets", 2, 0, log)), False)
        log = (("begin", 0, 1, 2), ("parcel", 2, 3, 4))
        self.assertIs(shows_forgetting(road=road, value=("forgets", 2, 0, log)), True)
        self.assertIs(shows_forgetting(road, ("forgets", 0, 0, log)), False)
        for index in (-1, 3, None, True, "0", 1.0, Prickly()):
            self.assertIs(shows_forgetting(road, ("forgets", index, 0, log)), False)


ROAD = Road(Way(3, 1, 3, [(1, 2, 4, 9)]), 8, 7, 2, [2, 1], 6, 2)
# The begin, two parcels, signs at 2 and 4 behind the answer, and the parcel of the next row at 6.
LOG = (
    ("begin", 3, 4, 8), ("parcel", 8, 9, 14), ("parcel", 14, None, None), ("parcel", 21, 23, 24),
    ("sign", 26, 28, None), ("sign", 28, None, None), ("parcel", 30, 32, 36),
)


def lets(log, first=None, road=ROAD):
    if first is None:
        seen = [place for place, sending in enumerate(log[:-1]) if sending[2] is not None]
        first = seen[-1]
    return shows_forgetting(road, ("forgets", 0, first, log))


class LogTest(Case):
    def changed(self, place, at, value, first=None):
        sending = LOG[place][:at] + (value,) + LOG[place][at + 1:]
        return lets(LOG[:place] + (sending,) + LOG[place + 1:], first)

    def test_logs_that_stop_ahead_of_the_end(self):
        # At most 4 apart is not enough.
        for many, shows in ((2, True), (4, True), (5, True), (7, False)):
            self.assertIs(lets(LOG[:many]), shows, many)
        self.assertIs(lets(LOG[:3]), False)
        self.assertIs(lets(LOG[:6]), False)
        self.assertIs(lets(LOG[:6] + (("parcel", 30, 33, 36),)), False)

    def test_first(self):
        self.assertIs(lets(LOG[:4], 1), True)
        for first in (0, 2, 3, 4, -3, None, True, "1", 1.0, Prickly(), Same()):
            if first is not None:
                self.assertIs(lets(LOG[:4], first), False)
        self.assertIs(shows_forgetting(ROAD, ("forgets", 0, None, LOG[:4])), False)
        # The sending at the place first has to be seen.
        self.assertIs(lets(LOG[:4], 2), False)
        self.assertIs(lets((LOG[0],), 0), False)

    def test_kinds_and_moments(self):
        for place in range(2):
            for value in ("begin", "parcel", "sign", "", None, 0, Prickly(), Same(), b"begin"):
                log = LOG[:place] + ((value,) + LOG[place][1:],) + LOG[place + 1:2]
                self.assertIs(lets(log, 0), value == LOG[place][0] if isinstance(value, str) else False)
            for value in (LOG[place][1] - 1, LOG[place][1] + 1, None, True, "8", float(LOG[place][1]), Prickly()):
                log = LOG[:place] + ((LOG[place][0], value) + LOG[place][2:],) + LOG[place + 1:2]
                self.assertIs(lets(log, 0), False)

    def test_what_is_seen(self):
        # From near to far behind its moment: 1 and 2.
        for seen in (8, 11, True, "10", 9.0, Prickly(), Same()):
            self.assertIs(lets((LOG[0], ("parcel", 8, seen, 14)), 0), False)
        self.assertIs(lets((LOG[0], ("parcel", 8, 9, 14)), 0), True)
        self.assertIs(lets((LOG[0], ("parcel", 8, 10, 14)), 0), True)
        # The begin is seen, and has a back.
        for begin in (("begin", 3, None, 8), ("begin", 3, 4, None), ("begin", 3, None, None)):
            self.assertIs(shows_forgetting(ROAD, ("forgets", 0, 0, (begin, ("parcel", 8, 10, 14)))), False)
            self.assertIs(shows_forgetting(ROAD, ("forgets", 0, 1, (begin,) + LOG[1:4])), False)

    def test_backs_at_their_edges(self):
        # At least twice the least delay and the least delay behind what is seen, at most twice the most delay.
        for seen, back, fits in ((9, 9, False), (9, 10, True), (9, 14, True), (9, 15, False), (10, 10, False), (10, 11, True)):
            log = (LOG[0], ("parcel", 8, seen, back), ("parcel", back, back + 2, back + 3))
            self.assertIs(lets(log + (("parcel", back, None, None),), 0), False)
            slow = (LOG[0], ("parcel", 8, seen, back), ("parcel", back, None, None), ("parcel", back + 7, back + 8, back + 9))
            self.assertIs(lets(slow, 1), fits)
        # A road with a greater spread: what is seen at 3 has a back from 4 on.
        road = Road(Way(0, 1, 3, [(0, 3, 1, 1)]), 6, 6, 1, [2], 1, 1)
        for back, fits in ((2, False), (3, False), (4, True), (6, True), (7, False)):
            log = (("begin", 0, 0, 3), ("parcel", 3, 6, 3 + back))
            self.assertIs(lets(log, 0, road), fits)
        # What is seen at once has a back from twice the least delay on.
        for least in (1, 2):
            road = Road(Way(0, least, 3, [(0, 3, 1, 1)]), 6, 6, 1, [2], 1, 1)
            for back in range(8):
                log = (("begin", 0, 0, 4), ("parcel", 4, 4, 4 + back), ("parcel", 4 + back, 7 + back, 10 + back))
                self.assertIs(lets(log, 1, road), 2 * least <= back <= 6)
        for back in (True, "6", 10.0, Prickly(), Same()):
            self.assertIs(lets((LOG[0], ("parcel", 8, 10, back)), 0), False)

    def test_the_begin_wins_at_most_at_the_last_moment(self):
        road = Road(Way(3, 1, 3, [(1, 2, 2, 9)]), 7, 7, 1, [1], 1, 1)
        for back, fits in ((4, False), (5, True), (6, True), (7, True), (8, False), (9, False)):
            log = (("begin", 3, 4, back), ("parcel", back, back + 2, back + 3))
            self.assertIs(lets(log, 0, road), fits and back + 2 - 4 > 2)

    def test_what_is_not_seen_has_no_back(self):
        log = (LOG[0], ("parcel", 8, None, 12), ("parcel", 12, 14, 18))
        self.assertIs(lets(log, 0), False)

    def test_signs_have_no_back(self):
        log = LOG[:5] + (("sign", 28, 29, None), ("parcel", 30, None, None), ("parcel", 37, 39, 40))
        self.assertIs(lets(log), True)
        for back in (28, 30, 33, True, Prickly()):
            self.assertIs(lets(LOG[:5] + (("sign", 28, 29, back),) + log[6:]), False)
        self.assertIs(lets(log[:4] + log[5:]), False)
        self.assertIs(lets(log[:5] + (("sign", 28, 29, None), ("sign", 30, None, None)) + log[7:]), False)

    def test_losses(self):
        # Two are lost at most: parcels and signs that are not seen, and answers.
        lost = (LOG[0], LOG[1], ("parcel", 14, 15, None), ("parcel", 21, None, None), ("parcel", 28, 29, 30))
        self.assertIs(lets(lost, 2), True)
        self.assertIs(lets(lost[:4] + (("parcel", 28, None, None), ("parcel", 35, 36, 37)), 2), False)
        self.assertIs(lets(lost[:4] + (("parcel", 28, 29, None),), 2), False)
        # A lost answer at the end, the second loss, is fine.
        self.assertIs(lets(lost[:3] + (("parcel", 21, 22, None),), 2), True)
        quiet = LOG[:2] + (("parcel", 14, 15, 16), ("sign", 18, None, None), ("sign", 20, None, None))
        self.assertIs(lets(quiet + (("parcel", 22, 23, 28),), 2), True)
        self.assertIs(lets(quiet + (("parcel", 22, 23, None),), 2), False)

    def test_nothing_goes_on_behind_the_end(self):
        road = Road(Way(3, 1, 3, [(1, 2, 2, 9)]), 8, 7, 2, [1], 6, 2)
        log = (("begin", 3, 4, 8), ("parcel", 8, 9, 14))
        self.assertIs(lets(log, 0, road), True)
        for further in (("sign", 16, 17, None), ("parcel", 14, 16, 17), ("parcel", 20, 22, 24), ("parcel", 15, 18, 20)):
            self.assertIs(lets(log + (further,), 1, road), False)

    def test_any_values(self):
        log = LOG[:2]
        self.assertIs(shows_forgetting(ROAD, ("forgets", 0, 0, log)), True)
        for value in (
            None, True, 0, "forgets", (), ("forgets",), ("forgets", 0, 0), ("forgets", 0, 0, log, 0), ["forgets", 0, 0, log],
            ("remembers", 0, 0, log), ("forgets", 0, 0, list(log)), ("forgets", 0, 0, None), ("forgets", 0, 0, ()),
            ("forgets", 0, 0, (LOG[0],)), ("forgets", 0, 0, "begin"), ("forgets", 0, 0, Prickly()), Prickly(), Same(),
            (Same(), 0, 0, log), (Prickly(), 0, 0, log), ("forgets", Same(), 0, log), ("forgets", 0, Same(), log),
            ("forgets", 0, 0, Same()), ("forgets", 0, 0, (LOG[0], None)), ("forgets", 0, 0, (None, LOG[1])),
            ("forgets", 0, 0, (list(LOG[0]), LOG[1])), ("forgets", 0, 0, (LOG[0], list(LOG[1]))),
            ("forgets", 0, 0, (LOG[0], LOG[1] + (0,))), ("forgets", 0, 0, (LOG[0], LOG[1][:3])), ("forgets", False, 0, log),
            ("forgets", 0, False, log), ("forgets", 0, 0, (LOG[0], Prickly())), ("forgets", 0, 0, (Same(), LOG[1])),
        ):
            self.assertIs(shows_forgetting(ROAD, value), False)

    def test_against_all_logs(self):
        roll = dice(92)
        shown = refused = 0
        for _ in range(9):
            near = roll.randrange(2)
            far = roll.randrange(near, 3)
            way = Way(0, 1, 2, [(near, far, roll.randrange(1, 9), 9)])
            rows = roll.choice([[1], [2], [1, 1], [1, 2], [1, 1, 1]])
            road = Road(way, roll.randrange(2, 5), roll.randrange(4, 6), roll.randrange(1, 3), rows, roll.randrange(1, 5),
                        roll.randrange(1, 4))
            logs = list(plain_logs(road, way.boxes[0], 5))
            for log in roll.sample(logs, min(len(logs), 400)):
                places = plain_forgets(road, 0, log)
                for first in range(-1, len(log) + 1):
                    shows = shows_forgetting(road, ("forgets", 0, first, log))
                    self.assertIs(shows, first in places)
                    # What it says is so.
                    self.assertFalse(shows and is_kept(road))
                    shown += shows
                refused += not places
                self.check_bent(roll, road, log, set(logs))
        self.assertGreater(shown, 300)
        self.assertGreater(refused, 300)

    def check_bent(self, roll, road, log, every):
        """A log with one value bent is one just if it is among all logs."""
        place, at = roll.randrange(len(log)), roll.randrange(1, 4)
        old = log[place][at]
        new = roll.choice([None, old + 1, old - 1, old + road.turn] if old is not None else [log[place][1] + 1, 0])
        bent = log[:place] + (log[place][:at] + (new,) + log[place][at + 1:],) + log[place + 1:]
        for first in range(len(bent)):
            want = bent in every and first in plain_forgets(road, 0, bent)
            self.assertIs(shows_forgetting(road, ("forgets", 0, first, bent)), want)
