"""[17]: papers of a room, a cap and a length."""

from itertools import product

from tests.help import NO_INTEGERS, NO_LISTS, Case, Prickly
from tests.rooms import cuts_of, small_rooms
from wholeline.roompapers import lets_room, room_paper
from wholeline.steps import Room, Steps

ROOM = Room(10, Steps([4, 8]))


def plain_lets(room, cap, length, value):
    """Whether a well-formed tuple is a paper, by the words of [17]."""
    def behind(mark):
        return max(held + room.reach(held, cap) for held in range(min(mark, room.size) + 1))

    if value[0] == "stuck":
        return 0 <= value[1] < length and behind(value[1]) <= value[1]
    _, pieces, marks = value
    if pieces not in cuts_of(room, cap, length) or len(marks) != len(pieces):
        return False
    if length == 0:
        return marks == (-1,)
    if marks[0] < 0 or marks[-1] >= length:
        return False
    return all(marks[at] >= behind(marks[at - 1]) for at in range(1, len(marks)))


class RoomPaperTest(Case):
    def test_examples(self):
        self.same(room_paper(ROOM, 5, 10), ("cut", (5, 1, 4), (0, 5, 9)))
        self.same(room_paper(room=ROOM, cap=3, length=10), ("stuck", 9))
        self.same(room_paper(ROOM, 0, 0), ("cut", (0,), (-1,)))
        self.same(room_paper(ROOM, 0, 1), ("stuck", 0))
        self.same(room_paper(Room(3, Steps([4])), 99, 99), ("stuck", 0))

    def test_papers_are_accepted_and_say_what_is_so(self):
        for room in small_rooms():
            for cap in range(room.size + 2):
                for length in range(room.size + 3):
                    paper = room_paper(room, cap, length)
                    self.assertIs(lets_room(room, cap, length, paper), True)
                    found = cuts_of(room, cap, length)
                    self.assertEqual(paper[0], "cut" if found else "stuck")
                    if found:
                        self.assertEqual(len(paper[1]), min(len(cut) for cut in found))

    def test_great_rooms(self):
        for bounds in ([1], [60], [1, 2, 3, 4], [7, 30]):
            room = Room(60, Steps(bounds))
            for cap in (0, 1, 2, 5, 59, 60, 99):
                for length in (0, 1, 30, 59, 60, 61, 99):
                    self.assertIs(lets_room(room, cap, length, room_paper(room, cap, length)), True)


class LetsRoomTest(Case):
    def test_all_small_papers(self):
        for room in small_rooms(3, 2):
            for cap in range(4):
                for length in range(5):
                    self.check_all(room, cap, length)

    def check_all(self, room, cap, length):
        found = cuts_of(room, cap, length)
        least = min([len(cut) for cut in found], default=None)
        papers = [("stuck", top) for top in range(-1, 7)]
        for pieces in found + [(1,), (0,), (), (1, 1)]:
            for marks in product(range(-1, 5), repeat=len(pieces)):
                papers.append(("cut", pieces, marks))
        for paper in papers:
            accepted = lets_room(room, cap, length, paper)
            self.assertIs(accepted, plain_lets(room, cap, length, paper))
            if accepted:
                self.assertIs(paper[0] == "stuck", least is None)
                self.assertTrue(least is None or len(paper[1]) == least)

    def test_marks_may_be_greater(self):
        room = Room(10, Steps([1]))
        self.assertIs(lets_room(room, 9, 3, ("cut", (1, 1, 1), (0, 1, 2))), True)
        self.assertIs(lets_room(room, 9, 3, ("cut", (1, 1, 1), (1, 2, 2))), False)
        self.assertIs(lets_room(room, 9, 9, ("stuck", 8)), False)
        self.assertIs(lets_room(Room(10, Steps([8])), 8, 10, ("cut", (2, 8), (2, 9))), False)
        self.assertIs(lets_room(Room(10, Steps([8])), 8, 10, ("cut", (2, 8), (1, 9))), True)
        self.assertIs(lets_room(Room(3, Steps([1])), 1, 99, ("stuck", 98)), True)

    def test_refused(self):
        right = ("cut", (5, 1, 4), (0, 5, 9))
        self.assertIs(lets_room(room=ROOM, cap=5, length=10, value=right), True)
        wrong = [
            list(right), right[:2], right + (1,), ("cut", [5, 1, 4], (0, 5, 9)), ("cut", (5, 1, 4), [0, 5, 9]),
            ("cut", (5, 1, 4), (0, 5)), ("cut", (5, 1, 4), (0, 5, 9, 9)), ("cut", (5, 1, 4), (False, 5, 9)),
            ("cut", (5, True, 4), (0, 5, 9)), ("cut", (5, 1, 4), (-1, 5, 9)), ("cut", (5, 1, 4), (0, 5, 10)),
            ("cut", (5, 1, 4), (0, 4, 9)), ("cut", (5, 1, 4), (0, 5, 8)), ("cut", (5, 1, 4), None),
            ("cuts", (5, 1, 4), (0, 5, 9)), (Prickly(), (5, 1, 4), (0, 5, 9)), ("cut", (4, 1, 1, 4), (0, 5, 9, 10)),
            ("stuck", 9), ("stuck",), ("stuck", 9, 9), ("cut", (5, 1, 4), (0, Prickly(), 9)),
        ]
        for value in wrong + NO_INTEGERS + NO_LISTS:
            self.assertIs(lets_room(ROOM, 5, 10, value), False)
        for top in NO_INTEGERS + [-1, 0, 8, 10]:
            self.assertIs(lets_room(ROOM, 3, 10, ("stuck", top)), False)
        self.assertIs(lets_room(ROOM, 3, 10, ("stuck", 9)), True)
        self.assertIs(lets_room(ROOM, 3, 10, ["stuck", 9]), False)
        self.assertIs(lets_room(ROOM, 0, 1, ("stuck", False)), False)
        self.assertIs(lets_room(ROOM, 0, 1, ("stuck", 0)), True)
        for odd in NO_INTEGERS:
            self.assertIs(lets_room(ROOM, 5, 10, ("cut", (5, 1, 4), (odd, 5, 9))), False)
            self.assertIs(lets_room(ROOM, 5, 0, ("cut", (0,), (odd,))), False)
            self.assertIs(lets_room(ROOM, 5, 0, ("cut", (odd,), (-1,))), False)
        self.assertIs(lets_room(ROOM, 5, 0, ("cut", (0,), (-1,))), True)
        self.assertIs(lets_room(ROOM, 5, 0, ("cut", (0,), (0,))), False)
        self.assertIs(lets_room(ROOM, 5, 0, ("stuck", 0)), False)
