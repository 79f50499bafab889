"""[26]: waits, and the losses that they need."""

from itertools import product

from tests.help import NO_INTEGERS, NO_LISTS, Case
from tests.plainturns import whole_courses
from wholeline.errors import BadWait, Unsafe
from wholeline.seen import fewest_losses, waits_of
from wholeline.turns import Load, Turn, play

CALM = Turn(1, 2, 4, 2)
UNSAFE = Turn(1, 3, 2, 2)
SMALL = [
    (Turn(1, 2, 4, 2), [1, 1], 2), (Turn(1, 2, 6, 2), [2], 1), (Turn(1, 2, 3, 2), [2], 1), (Turn(2, 3, 9, 3), [1], 2),
    (Turn(1, 1, 1, 2), [2], 2), (Turn(1, 2, 1, 2), [1], 1), (Turn(2, 3, 3, 2), [1, 1], 1), (Turn(1, 1, 5, 2), [1, 1], 2),
]


class WaitsTest(Case):
    def test_waits_go_from_opening_to_closing(self):
        course = [("answered", 1, 2), ("lost",), ("come", 1), ("answered", 2, 2), ("answered", 1, 1)]
        self.same(waits_of(play(CALM, Load([2, 1], 10), course)), (3, 12, 2))
        self.same(waits_of(played=play(CALM, Load([2], 1), course[:3])), (3,))
        self.same(waits_of(play(CALM, Load([2], 1), ())), ())
        # Parcel 1 is sent a second time while the answer to its first sending is on its way.
        turn = Turn(2, 2, 3, 2)
        self.same(waits_of(play(turn, Load([2], 1), [("answered", 2, 2)] * 4)), (4, 4))


class FewestLossesTest(Case):
    def test_edges(self):
        load = Load([1], 1)
        turn = Turn(2, 3, 10, 2)
        want = {3: None, 4: 0, 6: 0, 7: None, 13: None, 14: 1, 16: 1, 17: None, 23: None, 24: 2, 26: 2, 27: None}
        for wait, losses in want.items():
            self.same(fewest_losses(turn, load, [wait]), losses)
        self.same(fewest_losses(Turn(1, 1, 1, 2), load, [10000]), 9998)
        self.same(fewest_losses(Turn(1, 50, 100, 2), load, [10000]), 99)
        self.same(fewest_losses(Turn(1, 50, 100, 2), load, [101]), None)
        self.same(fewest_losses(Turn(1, 50, 100, 2), load, [102]), 1)

    def test_sums(self):
        turn = Turn(2, 3, 10, 2)
        load = Load([2, 1], 1)
        self.same(fewest_losses(turn, load, (4, 16, 26)), 3)
        self.same(fewest_losses(turn=turn, load=load, waits=[5, 5, 5]), 0)
        self.same(fewest_losses(turn, load, [5, 7, 5]), None)

    def test_against_all_courses(self):
        for turn, rows, losses in SMALL:
            load = Load(rows, 1)
            fewest = {}
            for course, told in whole_courses(turn, load, losses):
                waits = waits_of(told)
                fewest[waits] = min(fewest.get(waits, 99), told.lost)
            top = 2 * turn.most + (losses + 1) * turn.turn + 1
            for waits in product(range(1, top), repeat=len(load)):
                many = fewest_losses(turn, load, waits)
                self.same(many if many is None or many <= losses else None, fewest.get(waits))

    def test_wrong_waits(self):
        load = Load([2], 1)
        for turn in (CALM, UNSAFE):
            for value in NO_INTEGERS + [0, -1, 10001]:
                self.raises(BadWait(0), fewest_losses, turn, load, [value])
                self.raises(BadWait(1), fewest_losses, turn, load, (2, value, None))
                self.raises(BadWait(2), fewest_losses, turn, load, (2, 2, value))
            for waits in NO_LISTS + [[], (2,), [2, 2, 2]]:
                self.raises(BadWait(None), fewest_losses, turn, load, waits)
        self.raises(Unsafe(("copy", 0)), fewest_losses, UNSAFE, load, [2, 2])
        self.raises(Unsafe(("answer", 0)), fewest_losses, Turn(2, 3, 2, 2), Load([3], 1), [10000] * 3)
