"""[15]: what goes through a room, in how many pieces, and greedy cuts."""

from tests.help import NO_INTEGERS, Case
from tests.rooms import cuts_of, plain_reach, small_rooms
from wholeline.cutting import cuts, is_right_cut, told_cut
from wholeline.errors import BadNumber, BadPart
from wholeline.pieces import fewest, goes, greedy, layers, least_cap
from wholeline.roompapers import lets_room, room_paper
from wholeline.steps import Room, Steps

ROOM = Room(10, Steps([4, 8]))


def plain_layers(room, cap):
    """The greatest numbers of units held behind at most 0, 1, 2 .. pieces, by going through all."""
    tops = [0]
    there = {0}
    while True:
        there = there | {
            held + piece for held in there
            for piece in range(1, plain_reach(room.size, room.steps.bounds, held, cap) + 1)
        }
        if max(there) == tops[-1]:
            return tops
        tops.append(max(there))


class ExamplesTest(Case):
    def test_interface(self):
        self.same(ROOM.told(3), 4)
        self.same(ROOM.top(5), 10)
        self.same(layers(ROOM, 5), [0, 5, 9, 10])
        self.same(told_cut(ROOM, 8, 10), (6, 4))
        self.same(greedy(ROOM, 8, 10), ((8,), False))

    def test_by_name(self):
        self.same(goes(room=ROOM, cap=8, length=10), True)
        self.same(fewest(room=ROOM, cap=8, length=10), 2)
        self.same(layers(room=ROOM, cap=0), [0])
        self.same(least_cap(room=ROOM, length=10), 4)
        self.same(greedy(room=ROOM, cap=5, length=6), ((5, 1), True))

    def test_length_0(self):
        for room in (ROOM, Room(3, Steps([4]))):
            for cap in (0, 5, 99):
                self.same(goes(room, cap, 0), True)
                self.same(fewest(room, cap, 0), 1)
                self.same(greedy(room, cap, 0), ((0,), True))
            self.same(least_cap(room, 0), 0)

    def test_stuck(self):
        for room, cap, length in ((ROOM, 0, 1), (ROOM, 99, 99), (Room(3, Steps([4])), 99, 1), (ROOM, 3, 10)):
            self.same(goes(room, cap, length), False)
            self.same(fewest(room, cap, length), None)
        self.same(layers(Room(3, Steps([4])), 99), [0])
        self.same(least_cap(ROOM, 11), None)
        self.same(least_cap(Room(3, Steps([4])), 1), None)
        self.same(greedy(Room(3, Steps([4])), 9, 1), ((), False))

    def test_greatest_ones(self):
        room = Room(60, Steps([1]))
        self.same(fewest(room, 99, 60), 60)
        self.same(layers(room, 99), list(range(61)))
        self.same(greedy(room, 99, 60), ((1,) * 60, True))
        self.same(fewest(Room(60, Steps([60])), 99, 60), 1)
        self.same(layers(Room(60, Steps([60])), 99), [0, 60])
        self.same(goes(Room(60, Steps([60])), 99, 61), False)


class ErrorsTest(Case):
    def test_errors(self):
        for call in (goes, fewest, greedy, told_cut, is_right_cut_of, lets_none, room_paper):
            for room in NO_INTEGERS + [5, Steps([1])]:
                self.raises(BadPart("room"), call, room, None, None)
            for cap in NO_INTEGERS + [-1, 100]:
                self.raises(BadNumber(cap), call, ROOM, cap, 100)
            for length in NO_INTEGERS + [-1, 100]:
                self.raises(BadNumber(length), call, ROOM, 99, length)

    def test_errors_of_fewer_arguments(self):
        for value in NO_INTEGERS + [-1, 100]:
            self.raises(BadPart("room"), layers, value, value)
            self.raises(BadPart("room"), least_cap, value, value)
            self.raises(BadNumber(value), layers, ROOM, value)
            self.raises(BadNumber(value), least_cap, ROOM, value)

    def test_errors_of_the_generator(self):
        cuts(None, None, None)
        for value in NO_INTEGERS + [-1, 100]:
            self.first_raises(BadPart("room"), cuts(value, value, value))
            self.first_raises(BadNumber(value), cuts(ROOM, value, 100))
            self.first_raises(BadNumber(value), cuts(ROOM, 0, value))
            self.first_raises(BadPart("room"), cuts(value, value, 0))
            self.first_raises(BadNumber(value), cuts(ROOM, value, 0))


def is_right_cut_of(room, cap, length):
    return is_right_cut(room, cap, length, None)


def lets_none(room, cap, length):
    return lets_room(room, cap, length, None)


class PlainSearchTest(Case):
    def test_all(self):
        for room in small_rooms():
            for cap in range(room.size + 2):
                self.same(layers(room, cap), plain_layers(room, cap))
                going = [0]
                for length in range(room.size + 2):
                    if self.check_length(room, cap, length):
                        going.append(length)
                self.same(room.top(cap), max(going))

    def check_length(self, room, cap, length):
        found = cuts_of(room, cap, length)
        self.assertIs(goes(room, cap, length), bool(found))
        self.same(fewest(room, cap, length), min([len(cut) for cut in found], default=None))
        self.check_greedy(room, cap, length, found)
        return bool(found)

    def check_greedy(self, room, cap, length, found):
        pieces, through = greedy(room, cap, length)
        self.assertIs(through, pieces in found)
        if length > 0:
            held = 0
            for piece in pieces:
                reach = plain_reach(room.size, room.steps.bounds, held, cap)
                self.assertEqual(piece, min(reach, length - held))
                held += piece
            if not through:
                self.assertLess(held, length)
                self.assertEqual(plain_reach(room.size, room.steps.bounds, held, cap), 0)

    def test_least_cap(self):
        for room in small_rooms(6, 2):
            for length in range(room.size + 2):
                caps = [cap for cap in range(room.size + 2) if cuts_of(room, cap, length)]
                self.same(least_cap(room, length), caps[0] if caps else None)

    def test_more_never_hurts(self):
        for room in small_rooms(6, 2):
            for cap in range(room.size + 1):
                for length in range(room.size + 1):
                    need = fewest(room, cap, length)
                    if need is not None:
                        self.assertLessEqual(fewest(room, cap + 1, length), need)
                        larger = Room(room.size + 1, room.steps)
                        self.assertLessEqual(fewest(larger, cap, length), need)
                        for bound in range(1, room.size + 3):
                            if bound not in room.steps:
                                more = Room(room.size, room.steps + bound)
                                self.assertLessEqual(fewest(more, cap, length), need)

    def test_greedy_may_need_more(self):
        wasteful = [
            (room, cap, length) for room in small_rooms() for cap in range(room.size + 1)
            for length in range(1, room.size + 1)
            if greedy(room, cap, length)[1] and len(greedy(room, cap, length)[0]) > fewest(room, cap, length)
        ]
        self.assertTrue(wasteful)

    def test_lists_may_be_changed(self):
        layers(ROOM, 5).clear()
        self.same(layers(ROOM, 5), [0, 5, 9, 10])
