"""Logs of roads by the words of [29], which tests of boxpapers share."""


def plain_logs(road, box, most_items):
    """All logs of a road and a box with at most so many sendings."""
    way = road.way
    near, far = box[:2]
    least, most = way.least, way.most

    def backs(moment, seen):
        low = max(moment + 2 * least, seen + least)
        return range(low, moment + 2 * most + 1)

    def signs_behind(row, base, at, left, log):
        """What is sent in the quiet behind the row that ended at base; at is the moment of the last sign."""
        yield from cut(log)
        if len(log) == most_items:
            return
        moment = at + road.period
        if moment < base + road.quiet:
            for seen in range(moment + near, moment + far + 1):
                yield from signs_behind(row, base, moment, left, log + (("sign", moment, seen, None),))
            if left:
                yield from signs_behind(row, base, moment, left - 1, log + (("sign", moment, None, None),))
        else:
            yield from parcels(row + 1, 0, base + road.quiet, left, log)

    def parcels(row, index, moment, left, log):
        if len(log) == most_items:
            return
        for seen in [None, *range(moment + near, moment + far + 1)]:
            if left:
                lost = log + (("parcel", moment, seen, None),)
                yield from cut(lost)
                yield from parcels(row, index, moment + road.turn, left - 1, lost)
            if seen is not None:
                for back in backs(moment, seen):
                    further = log + (("parcel", moment, seen, back),)
                    if index + 1 < road.rows[row]:
                        yield from cut(further)
                        yield from parcels(row, index + 1, back, left, further)
                    elif row + 1 < len(road.rows):
                        yield from signs_behind(row, back, back, left, further)
                    else:
                        yield from cut(further)

    told = set()

    def cut(log):
        if log not in told:
            told.add(log)
            yield log

    begin = way.begin
    for seen in range(begin + near, begin + far + 1):
        for back in backs(begin, seen):
            if back <= road.last:
                log = (("begin", begin, seen, back),)
                yield from cut(log)
                yield from parcels(0, 0, back, road.losses, log)


def plain_forgets(road, index, log):
    """The places `first` for which a log makes a forgetting paper."""
    places = []
    for first in range(len(log) - 1):
        between = [sending[2] for sending in log[first + 1:-1]]
        if log[first][2] is not None and log[-1][2] is not None and between == [None] * len(between):
            if log[-1][2] - log[first][2] > road.way.boxes[index][2]:
                places.append(first)
    return places
