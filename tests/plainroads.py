"""Roads searched through sending by sending, which tests of Part 5 share."""


class RoadSearch:
    """All gaps that come about on a road, by the words of [27] and [29]."""

    def __init__(self, road):
        self.road = road
        self.gaps = set()
        self.seen = set()

    def all_gaps(self):
        road = self.road
        least, most = road.way.least, road.way.most
        for wait in range(2 * least, min(2 * most, road.last - road.way.begin) + 1):
            self.parcel(0, 0, wait, road.losses, "race")
        return self.gaps

    def parcel(self, row, index, since, left, kind):
        """A parcel is sent, so long behind the last thing that came to the box."""
        if (row, index, since, left, kind) in self.seen:
            return
        self.seen.add((row, index, since, left, kind))
        road = self.road
        self.gaps.add((kind, since))
        for wait in range(2 * road.way.least, 2 * road.way.most + 1):
            self.answered(row, index, wait, left)
        if left:
            self.parcel(row, index, road.turn, left - 1, "again")
            self.parcel(row, index, since + road.turn, left - 1, kind)

    def answered(self, row, index, since, left):
        road = self.road
        if index + 1 < road.rows[row]:
            self.parcel(row, index + 1, since, left, "row")
        elif row + 1 < len(road.rows):
            self.sign(row, road.period, since, left)

    def sign(self, row, moment, since, left):
        """What is sent at a moment behind the answer; `since` counts from the answer to the last thing that came."""
        road = self.road
        if ("sign", row, moment, since, left) in self.seen:
            return
        self.seen.add(("sign", row, moment, since, left))
        if moment >= road.quiet:
            self.parcel(row + 1, 0, since + road.quiet, left, "quiet")
            return
        self.gaps.add(("quiet", since + moment))
        self.sign(row, moment + road.period, -moment, left)
        if left:
            self.sign(row, moment + road.period, since, left - 1)
