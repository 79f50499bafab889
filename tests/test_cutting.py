"""[14], [15]: cuts, the told cut, and how a room fills."""

from itertools import islice, product

from tests.help import NO_INTEGERS, NO_LISTS, Case, Prickly
from tests.rooms import cuts_of, fewest_cuts_of, small_rooms
from wholeline.cutting import cuts, filled, is_right_cut, told_cut
from wholeline.errors import BadPart, BadPiece
from wholeline.steps import Room, Steps

ROOM = Room(10, Steps([4, 8]))


class CutsTest(Case):
    def test_all_of_fewest_pieces_descending(self):
        for room in small_rooms():
            for cap in range(room.size + 2):
                for length in range(room.size + 2):
                    found = fewest_cuts_of(room, cap, length)
                    self.same(list(cuts(room, cap, length)), found)
                    self.same(told_cut(room, cap, length), found[0] if found else None)

    def test_examples(self):
        self.same(list(cuts(room=ROOM, cap=8, length=10)), [(6, 4), (2, 8)])
        self.same(told_cut(room=ROOM, cap=8, length=0), (0,))
        self.same(list(cuts(Room(1, Steps([9])), 0, 0)), [(0,)])
        self.same(list(cuts(ROOM, 0, 1)), [])
        self.same(told_cut(ROOM, 99, 11), None)
        self.same(told_cut(ROOM, 99, 99), None)

    def test_many_cuts_come_one_by_one(self):
        room = Room(60, Steps([1, 2, 3, 4]))
        first = list(islice(cuts(room, 4, 51), 3))
        self.same(first[0], told_cut(room, 4, 51))
        self.same(first[0], (4,) * 12 + (3,))
        self.same(first[1], (4,) * 11 + (3, 4))
        self.same(told_cut(Room(60, Steps([1])), 99, 60), (1,) * 60)


class IsRightCutTest(Case):
    def test_all_small_tuples(self):
        for room in list(small_rooms(4, 2)):
            for cap in range(room.size + 2):
                for length in range(room.size + 2):
                    right = set(cuts_of(room, cap, length))
                    for many in range(4):
                        for value in product(range(-1, 5), repeat=many):
                            self.assertIs(is_right_cut(room, cap, length, value), value in right)

    def test_any_value(self):
        for value in NO_INTEGERS + NO_LISTS + [[6, 4], (6, 4.5), (True, 4, 5), (6, "4"), (Prickly(), 4), (6, None)]:
            self.assertIs(is_right_cut(ROOM, 8, 10, value), False)
        self.assertIs(is_right_cut(room=ROOM, cap=8, length=10, value=(2, 4, 4)), True)
        self.assertIs(is_right_cut(ROOM, 8, 0, (False,)), False)
        self.assertIs(is_right_cut(ROOM, 8, 0, ()), False)
        self.assertIs(is_right_cut(ROOM, 8, 0, (-1,)), False)
        self.assertIs(is_right_cut(ROOM, 8, 0, (1,)), False)
        self.assertIs(is_right_cut(ROOM, 8, 0, (0, 0)), False)
        self.assertIs(is_right_cut(ROOM, 0, 0, (0,)), True)
        self.assertIs(is_right_cut(ROOM, 8, 1, (True,)), False)
        self.assertIs(is_right_cut(ROOM, 8, 1, (1,)), True)
        self.assertIs(is_right_cut(ROOM, 8, 4, (4, 0)), False)
        self.assertIs(is_right_cut(ROOM, 99, 99, (8,) * 400), False)


class FilledTest(Case):
    def test_examples(self):
        self.same(list(filled(ROOM, [])), [(0, 8)])
        self.same(list(filled(ROOM, [2, 4, 0, 4])), [(0, 8), (2, 8), (6, 4), (6, 4), (10, 0)])
        self.same(list(filled(room=ROOM, pieces=(6, 4, 0))), [(0, 8), (6, 4), (10, 0), (10, 0)])

    def test_error_comes_behind_those_ahead(self):
        for piece in NO_INTEGERS + [-1, 5]:
            told = filled(ROOM, [6, piece, None])
            self.same(next(told), (0, 8))
            self.same(next(told), (6, 4))
            self.raises(BadPiece(1), next, told)
        told = filled(ROOM, [9])
        self.same(next(told), (0, 8))
        self.raises(BadPiece(0), next, told)
        told = filled(ROOM, [8, 1])
        self.same([next(told), next(told)], [(0, 8), (8, 0)])
        self.raises(BadPiece(1), next, told)

    def test_wrong_room(self):
        for room in NO_INTEGERS + [5]:
            self.first_raises(BadPart("room"), filled(room, None))

    def test_all_cuts_fill(self):
        for room in small_rooms(5, 2):
            for length in range(1, room.size + 1):
                for cut in cuts_of(room, 99, length):
                    told = list(filled(room, list(cut)))
                    self.same([row[0] for row in told], [sum(cut[:many]) for many in range(len(cut) + 1)])
                    self.same([row[1] for row in told], [room.told(row[0]) for row in told])
