"""[16]: spans, the fewest bounds that let a cut, and best steps."""

from itertools import combinations, combinations_with_replacement, product

from tests.help import NO_INTEGERS, NO_LISTS, Case, Prickly
from tests.rooms import plain_cuts
from wholeline.beststeps import apart_spans, best_steps, best_total, fewest_bounds, spans_of
from wholeline.cutting import is_right_cut
from wholeline.errors import BadNumber, BadPart, BadPiece, TooMany
from wholeline.roompapers import lets_spans, spans_paper
from wholeline.steps import Room, Steps


def all_pieces(size):
    """All tuples of pieces that have room."""
    for many in range(1, size + 1):
        for pieces in product(range(1, size + 1), repeat=many):
            if sum(pieces) <= size:
                yield pieces


def plain_spans(size, pieces):
    return [(piece, size - sum(pieces[:index])) for index, piece in enumerate(pieces)]


def lets(size, bounds, pieces):
    """Whether bounds of any number let a cut."""
    spans = plain_spans(size, pieces)
    return all(any(low <= bound <= high for bound in bounds) for low, high in spans)


def meet(one, other):
    return bool(set(range(one[0], one[1] + 1)) & set(range(other[0], other[1] + 1)))


def plain_fewest(size, pieces):
    for many in range(1, size + 1):
        for bounds in combinations(range(1, size + 1), many):
            if lets(size, bounds, pieces):
                return many


def plain_apart(size, pieces):
    spans = plain_spans(size, pieces)
    for many in range(len(spans), 0, -1):
        for lot in combinations(range(len(spans)), many):
            if not any(meet(spans[one], spans[other]) for one, other in combinations(lot, 2)):
                return many


def plain_best(size, cap, lengths, many):
    """The best bounds, of these the fewest, then the least tuple, with their number of pieces."""
    best = None
    for count in range(1, many + 1):
        for bounds in combinations(range(1, size + 1), count):
            found = [plain_cuts(size, bounds, cap, length) for length in lengths]
            if all(found):
                total = sum(min(len(cut) for cut in cuts) for cuts in found)
                if best is None or total < best[0]:
                    best = (total, bounds)
    return best


class SpansTest(Case):
    def test_examples(self):
        self.same(spans_of(10, [6, 4]), [(6, 10), (4, 4)])
        self.same(spans_of(size=10, pieces=(2, 8)), [(2, 10), (8, 8)])
        self.same(fewest_bounds(size=10, pieces=[6, 4]), [4, 10])
        self.same(apart_spans(size=10, pieces=[6, 4]), [0, 1])
        self.same(apart_spans(10, [2, 8]), [1])

    def test_against_a_plain_search(self):
        for size in range(1, 7):
            for pieces in all_pieces(size):
                self.same(spans_of(size, pieces), plain_spans(size, pieces))
                bounds = fewest_bounds(size, pieces)
                lot = apart_spans(size, list(pieces))
                self.same(bounds, sorted(set(bounds)))
                self.same(lot, sorted(set(lot)))
                self.assertTrue(lets(size, bounds, pieces))
                self.assertEqual(len(bounds), plain_fewest(size, pieces))
                self.assertEqual(len(lot), plain_apart(size, pieces))
                spans = plain_spans(size, pieces)
                self.assertFalse(any(meet(spans[one], spans[other]) for one, other in combinations(lot, 2)))

    def test_bounds_are_steps_that_let_the_cut(self):
        for pieces in all_pieces(6):
            bounds = fewest_bounds(6, pieces)
            if len(bounds) <= 4:
                self.assertTrue(is_right_cut(Room(6, Steps(bounds)), 99, sum(pieces), pieces))

    def test_more_than_four_bounds(self):
        pieces = (30, 15, 8, 4, 2, 1)
        self.assertEqual(len(fewest_bounds(60, pieces)), plain_apart(60, pieces))
        self.assertGreater(len(fewest_bounds(60, pieces)), 4)

    def test_errors(self):
        for call in (spans_of, fewest_bounds, apart_spans, spans_paper, lambda size, pieces: lets_spans(size, pieces, 0)):
            for size in NO_INTEGERS + [0, 61]:
                self.raises(BadNumber(size), call, size, None)
            for pieces in NO_LISTS + [[], ()]:
                self.raises(BadPiece(None), call, 10, pieces)
            for piece in NO_INTEGERS + [0, -1, 5]:
                self.raises(BadPiece(1), call, 10, [6, piece, 0])
            self.raises(BadPiece(0), call, 10, [11])
            self.raises(BadPiece(1), call, 10, [10, 1])


class SpansPaperTest(Case):
    def test_papers_are_accepted(self):
        for size in range(1, 7):
            for pieces in all_pieces(size):
                paper = spans_paper(size, pieces)
                self.assertEqual(paper[0], "spans")
                self.assertEqual([type(part) for part in paper], [str, tuple, tuple])
                self.assertIs(lets_spans(size, pieces, paper), True)

    def test_what_is_accepted_is_so(self):
        for size in (3, 4):
            spots = range(1, size + 2)
            for pieces in all_pieces(size):
                least = plain_fewest(size, pieces)
                for many, count in product(range(4), repeat=2):
                    for bounds in combinations(spots, many):
                        for lot in combinations(range(len(pieces)), count):
                            if lets_spans(size, pieces, ("spans", bounds, lot)):
                                self.assertTrue(lets(size, bounds, pieces))
                                self.assertEqual(len(bounds), least)

    def test_refused(self):
        right = ("spans", (4, 10), (0, 1))
        self.assertIs(lets_spans(size=10, pieces=[6, 4], value=right), True)
        wrong = [
            list(right), right[:2], right + (0,), ("span", (4, 10), (0, 1)), ("spans", [4, 10], (0, 1)),
            ("spans", (4, 10), [0, 1]), ("spans", (10, 4), (0, 1)), ("spans", (4, 10), (1, 0)),
            ("spans", (4, 4, 10), (0, 1)), ("spans", (4,), (0,)), ("spans", (4,), (1,)), ("spans", (), ()),
            ("spans", (4, 10), (False, 1)), ("spans", (4, 10), (0, True)), ("spans", (4, 10), (0, 2)),
            ("spans", (4, 10), (-1, 0)), ("spans", (4, 10), (0, 0)), (Prickly(), (4, 10), (0, 1)),
            ("spans", (4, 10, 61), (0, 1)), ("spans", None, (0, 1)), ("spans", (4, 10), None),
        ]
        for value in wrong + NO_INTEGERS + NO_LISTS:
            self.assertIs(lets_spans(10, [6, 4], value), False)
        for odd in NO_INTEGERS:
            self.assertIs(lets_spans(10, [6, 4], ("spans", (odd, 10), (0, 1))), False)
            self.assertIs(lets_spans(10, [6, 4], ("spans", (4, 10), (odd, 1))), False)
        # These spans meet, though there are as many bounds as indexes.
        self.assertIs(lets_spans(10, [2, 8], ("spans", (8, 9), (0, 1))), False)
        self.assertIs(lets_spans(10, [2, 8], ("spans", (8,), (0,))), True)
        self.assertIs(lets_spans(1, [1], ("spans", (True,), (0,))), False)
        self.assertIs(lets_spans(1, [1], ("spans", (1,), (0,))), True)


class BestStepsTest(Case):
    def test_against_a_plain_search(self):
        for size in range(1, 6):
            for cap in range(size + 2):
                for count in (1, 2):
                    for lengths in combinations_with_replacement(range(size + 2), count):
                        for many in (1, 2, 4):
                            self.check(size, cap, list(lengths), many)

    def test_larger_ones(self):
        for size, cap, lengths in ((9, 4, [9, 7]), (9, 3, [8]), (8, 6, [7, 7, 1]), (9, 5, [6, 0, 8])):
            for many in (1, 2, 3):
                self.check(size, cap, lengths, many)

    def check(self, size, cap, lengths, many):
        best = plain_best(size, cap, lengths, many)
        steps = best_steps(size, cap, lengths, many)
        self.same(best_total(size, cap, lengths, many), None if best is None else best[0])
        if best is None:
            self.assertIs(steps, None)
        else:
            self.assertIsInstance(steps, Steps)
            self.same(steps.bounds, best[1])

    def test_examples(self):
        self.same(best_steps(size=10, cap=8, lengths=[10, 4], many=2).bounds, (5,))
        self.same(best_total(size=10, cap=8, lengths=(10, 4), many=2), 3)
        self.same(best_steps(10, 0, [0, 0], 1).bounds, (1,))
        self.same(best_total(10, 0, [0, 0], 1), 2)
        self.assertIs(best_steps(10, 0, [0, 1], 1), None)
        self.assertIs(best_total(10, 99, [11], 1), None)
        self.same(best_steps(60, 99, [60] * 12, 2).bounds, (60,))
        self.same(best_total(60, 99, [60] * 12, 2), 12)

    def test_errors(self):
        for call in (best_steps, best_total):
            for size in NO_INTEGERS + [0, 61]:
                self.raises(BadNumber(size), call, size, -1, None, None)
            for cap in NO_INTEGERS + [-1, 100]:
                self.raises(BadNumber(cap), call, 10, cap, None, None)
            for lengths in NO_LISTS + [[], (), [1] * 13]:
                self.raises(BadPart("lengths"), call, 10, 8, lengths, None)
            for length in NO_INTEGERS + [-1, 100]:
                self.raises(BadNumber(length), call, 10, 8, [0, 99, length, None], None)
            for many in NO_INTEGERS + [0, 5]:
                self.raises(BadNumber(many), call, 60, 8, [99], many)

    def test_too_many_choices(self):
        for call in (best_steps, best_total):
            self.raises(TooMany(5000), call, 19, 8, [99], 4)
            self.raises(TooMany(5000), call, 60, 0, [0], 3)
            self.raises(TooMany(5000), call, 32, 0, [0], 3)
            self.assertIsNotNone(call(18, 8, [18], 4))
            self.assertIsNotNone(call(31, 8, [18], 3))
            self.assertIsNotNone(call(60, 8, [18], 2))
