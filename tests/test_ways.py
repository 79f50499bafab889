"""[5], [9], [18]: ways and their boxes."""

from tests.help import NO_INTEGERS, NO_LISTS, Case, Prickly
from wholeline.errors import BadBox, BadPart
from wholeline.ways import Way

BOX = (1, 3, 5, 10)


class WayTest(Case):
    def test_attributes(self):
        way = Way(5, 2, 4, [BOX, (0, 0, 1, 1)])
        self.same((way.begin, way.least, way.most, way.boxes), (5, 2, 4, (BOX, (0, 0, 1, 1))))
        way = Way(begin=None, least=1, most=50, boxes=())
        self.same((way.begin, way.least, way.most, way.boxes), (None, 1, 50, ()))
        self.same(Way(1000, 50, 50).boxes, ())

    def test_wrong_begin(self):
        for begin in NO_INTEGERS + [-1, 1001]:
            if begin is not None:
                self.raises(BadPart("begin"), Way, begin, 0, 0, None)
                self.raises(BadPart("begin"), Way(0, 1, 1).begun_at, begin)

    def test_wrong_delays(self):
        for delay in NO_INTEGERS + [0, -1, 51]:
            self.raises(BadPart("delays"), Way, 0, delay, 50, None)
            self.raises(BadPart("delays"), Way, 0, 1, delay, None)
            self.raises(BadPart("delays"), Way, None, delay, delay, None)
        self.raises(BadPart("delays"), Way, 0, 3, 2)

    def test_wrong_boxes(self):
        for boxes in NO_LISTS + [[BOX] * 4, [None] * 4]:
            self.raises(BadPart("boxes"), Way, 0, 2, 4, boxes)

    def test_box_limits(self):
        for box in ((0, 0, 1, 1), (2, 4, 10000, 10000), (2, 2, 1, 10000), (0, 4, 1, 2)):
            self.same(Way(0, 2, 4, (box,)).boxes, (box,))
        wrong = [
            (3, 3, 1, 1), (3, 4, 1, 1), (0, 5, 1, 1), (2, 1, 1, 1), (-1, 0, 1, 1), (0, 0, 0, 1), (0, 0, 2, 1),
            (0, 0, 1, 10001), (0, 0, 1), (0, 0, 1, 1, 1), [0, 0, 1, 1], (), "abcd", (False, 0, 1, 1), (0, False, 1, 1),
            (0, 0, True, 1), (0, 0, 1, True), (None, 0, 1, 1), (0, Prickly(), 1, 1),
        ]
        for box in wrong + NO_INTEGERS:
            self.raises(BadBox(0), Way, 0, 2, 4, [box, None])
            self.raises(BadBox(2), Way, 0, 2, 4, [BOX[:1] + (4, 1, 1), (0, 0, 1, 1), box])
        for place in range(4):
            for value in NO_INTEGERS:
                box = (0, 0, 1, 1)[:place] + (value,) + (0, 0, 1, 1)[place + 1:]
                self.raises(BadBox(0), Way, 0, 2, 4, [box])

    def test_window(self):
        self.same(Way(5, 2, 4).window(), (9, 13))
        self.same(Way(0, 3, 3).window(), (6, 6))
        self.same(Way(None, 2, 4).window(), None)

    def test_begun_at(self):
        way = Way(5, 2, 4, [BOX])
        self.equal_ones(way.begun_at(7), Way(7, 2, 4, (BOX,)))
        self.equal_ones(way.begun_at(begin=None), Way(None, 2, 4, (BOX,)))
        self.same(way.begin, 5)

    def test_equal(self):
        self.equal_ones(Way(5, 2, 4, [BOX]), Way(5, 2, 4, (BOX,)))
        for other in (Way(None, 2, 4, [BOX]), Way(5, 1, 4, [BOX]), Way(5, 2, 5, [BOX]), Way(5, 2, 4)):
            self.unlike_ones(Way(5, 2, 4, [BOX]), other)
        self.unlike_others(Way(5, 2, 4))
        self.not_iterated(Way(5, 2, 4))

    def test_lists_may_be_changed(self):
        boxes = [BOX]
        way = Way(5, 2, 4, boxes)
        boxes.clear()
        self.same(way.boxes, (BOX,))
