"""[13]: best writing, gaps and bounds, and the papers of heads."""

from itertools import combinations, product

from tests.help import NO_INTEGERS, NO_LISTS, Case, Prickly, dice
from tests.test_books import NO_NAMES
from wholeline.bestbooks import best_writing, bound_by, gaps_of, most_shorts, rule_shorts, shorts_by
from wholeline.bookpapers import lets_writing, writing_paper
from wholeline.books import Book, write_heads
from wholeline.errors import BadHead, BadIndexes, BadPart, BadWriting


def plain_gaps(heads):
    pairs = [
        (first, second) for second in range(len(heads)) for first in range(second)
        if heads[first] == heads[second] and heads[second] not in heads[first + 1:second]
    ]
    return pairs


def plain_bound(heads, places, indexes):
    empty = [gap for gap in plain_gaps(heads) if not any(gap[0] < index < gap[1] for index in indexes)]
    return len(indexes) * (places - 1) + len(empty)


def plain_most(heads, places):
    """The most short heads over all writings, state by state."""
    states = {(None,) * places: 0}
    for head in heads:
        following = {}
        for held, short in states.items():
            if head in held:
                following[held] = max(following.get(held, 0), short + 1)
            else:
                for place in range(places):
                    written = held[:place] + (head,) + held[place + 1:]
                    following[written] = max(following.get(written, 0), short)
        states = following
    return max(states.values())


def plain_bounds(heads, places):
    """The bounds of all ascending lists of indexes."""
    spots = range(len(heads))
    return {
        indexes: plain_bound(heads, places, indexes)
        for many in range(len(heads) + 1) for indexes in combinations(spots, many)
    }


ALL_HEADS = [heads for many in range(7) for heads in product("abc", repeat=many)]
MORE_HEADS = [tuple(dice(seed).choice("abcde") for _ in range(8)) for seed in range(40)]


class GapsTest(Case):
    def test_examples(self):
        self.same(gaps_of(["a", "b", "a", "b", "b"]), [(0, 2), (1, 3), (3, 4)])
        self.same(gaps_of(heads=()), [])

    def test_against_a_plain_search(self):
        for heads in ALL_HEADS:
            self.same(gaps_of(heads), plain_gaps(heads))

    def test_errors(self):
        for call in (gaps_of, lambda heads: bound_by(heads, None, None), lambda heads: most_shorts(heads, None),
                     lambda heads: best_writing(heads, None), lambda heads: shorts_by(heads, None, None),
                     lambda heads: rule_shorts(heads, None), lambda heads: writing_paper(heads, None),
                     lambda heads: lets_writing(heads, None, None)):
            for heads in NO_LISTS:
                self.raises(BadHead(None), call, heads)
            for name in NO_NAMES:
                self.raises(BadHead(1), call, ["a", name, name])

    def test_wrong_places(self):
        for places in NO_INTEGERS + [0, -1, 5]:
            self.raises(BadPart("places"), bound_by, ["a"], places, None)
            self.raises(BadPart("places"), shorts_by, ["a"], places, None)
            self.raises(BadPart("places"), lets_writing, ["a"], places, None)
            for call in (most_shorts, best_writing, rule_shorts, writing_paper):
                self.raises(BadPart("places"), call, ["a"], places)


class BoundTest(Case):
    def test_examples(self):
        heads = ["a", "b", "a", "b"]
        self.same(bound_by(heads, 1, []), 2)
        self.same(bound_by(heads, 1, [1, 2]), 0)
        self.same(bound_by(heads=heads, places=4, indexes=(1,)), 4)
        self.same(bound_by(heads, 2, [0]), 3)

    def test_against_the_words(self):
        for heads in ALL_HEADS[::7] + MORE_HEADS[:4]:
            for places in (1, 2, 4):
                for indexes, bound in plain_bounds(heads, places).items():
                    self.same(bound_by(heads, places, indexes), bound)

    def test_wrong_indexes(self):
        heads = ["a", "b", "a"]
        for indexes in NO_LISTS:
            self.raises(BadIndexes(None), bound_by, heads, 1, indexes)
        for index in NO_INTEGERS + [-1, 3, 0]:
            self.raises(BadIndexes(1), bound_by, heads, 1, [0, index, None])
        self.raises(BadIndexes(1), bound_by, heads, 1, [2, 1])
        self.raises(BadIndexes(0), bound_by, [], 1, [0])


class MostShortsTest(Case):
    def test_is_the_greatest_and_the_least_bound(self):
        for heads in ALL_HEADS + MORE_HEADS:
            for places in (1, 2, 3):
                most = most_shorts(heads, places)
                self.same(most, plain_most(heads, places))
                self.assertEqual(most, sum(shorts_by(heads, places, best_writing(heads, places))))
                self.assertLessEqual(rule_shorts(heads, places), most)
        for heads in MORE_HEADS[:15]:
            for places in (1, 2, 3, 4):
                self.assertEqual(most_shorts(heads, places), min(plain_bounds(heads, places).values()))

    def test_four_places(self):
        for seed in range(30):
            heads = [dice(seed).choice("abcdefg") for _ in range(10)]
            self.same(most_shorts(heads, 4), plain_most(heads, 4))

    def test_the_rule_is_not_always_best(self):
        heads = ["a", "b", "c", "a", "b", "c"]
        self.same(rule_shorts(heads, 2), 0)
        self.same(most_shorts(heads=heads, places=2), 2)

    def test_rule_shorts(self):
        for heads in MORE_HEADS:
            for places in (1, 2, 3, 4):
                words = write_heads(Book(places), heads)[0]
                self.same(rule_shorts(heads, places), sum(word[0] == "short" for word in words))
        self.same(rule_shorts(heads=(), places=1), 0)

    def test_long_lists(self):
        roll = dice(9)
        heads = [roll.choice(["a", "b", "c", "d", "e", "f", "g"]) for _ in range(400)]
        for places in (1, 2, 3, 4):
            self.assertTrue(lets_writing(heads, places, writing_paper(heads, places)))


class ShortsByTest(Case):
    def test_examples(self):
        heads = ["a", "b", "c", "a", "b", "c"]
        self.same(shorts_by(heads, 2, [0, 1, 1, 0]), [False, False, False, True, False, True])
        self.same(shorts_by(heads, 2, (0, 1, 0, 1, 0, 1)), [False] * 6)
        self.same(shorts_by(["a", "a"], 1, [0]), [False, True])
        self.same(shorts_by(heads=["a", "b", "a"], places=2, writing=[1, 1, 0]), [False, False, False])
        self.same(shorts_by([], 1, []), [])

    def test_wrong_writings(self):
        heads = ["a", "b", "a"]
        for writing in NO_LISTS:
            self.raises(BadWriting(None), shorts_by, heads, 2, writing)
        for place in NO_INTEGERS + [-1, 2]:
            self.raises(BadWriting(1), shorts_by, heads, 2, [0, place])
            self.raises(BadWriting(1), shorts_by, heads, 2, [0, place, None, None])
        self.raises(BadWriting(0), shorts_by, heads, 2, [])
        self.raises(BadWriting(1), shorts_by, heads, 2, [0])
        self.raises(BadWriting(2), shorts_by, heads, 2, [0, 0])
        self.raises(BadWriting(2), shorts_by, heads, 2, [0, 1, 0])
        self.raises(BadWriting(2), shorts_by, heads, 2, [0, 1, None])
        self.raises(BadWriting(0), shorts_by, [], 2, [0])


class WritingPaperTest(Case):
    def test_kinds(self):
        word, writing, indexes = writing_paper(["a", "b", "a"], 1)
        self.assertEqual((word, writing), ("best", [0, 0, 0]))
        self.assertIs(type(writing), list)
        self.assertIs(type(indexes), list)

    def test_papers_are_accepted(self):
        for heads in ALL_HEADS + MORE_HEADS:
            for places in (1, 2, 3, 4):
                self.assertIs(lets_writing(heads, places, writing_paper(heads, places)), True)

    def test_what_is_accepted_is_so(self):
        for heads in (("a", "b", "a", "b"), ("a", "b", "c", "a"), ("a", "a", "b"), ()):
            for places in (1, 2):
                self.check_all_papers(heads, places)

    def check_all_papers(self, heads, places):
        most = plain_most(heads, places)
        accepted = 0
        for indexes, bound in plain_bounds(heads, places).items():
            for many in range(len(heads) + 2):
                for writing in product(range(-1, places + 1), repeat=many):
                    if lets_writing(heads, places, ("best", list(writing), list(indexes))):
                        accepted += 1
                        self.assertEqual(sum(shorts_by(heads, places, writing)), most)
                        self.assertEqual(bound, most)
        self.assertGreater(accepted, 0)

    def test_refused(self):
        heads = ["a", "b", "a", "b"]
        word, writing, indexes = writing_paper(heads, 2)
        wrong = [
            [word, writing, indexes], (word, writing), (word, writing, indexes, 0), ("least", writing, indexes),
            (word, tuple(writing), indexes), (word, writing, tuple(indexes)), (Prickly(), writing, indexes),
            (word, [False] + writing[1:], indexes), (word, writing + [0], indexes), (word, writing[:-1], indexes),
            (word, writing, indexes + [3, 3]), (word, writing, [1, 0]), (word, writing, [1, 1]), (word, writing, [True]), (word, writing, [4]),
            (word, writing, [-1]), (word, None, indexes), (word, writing, None), (None, writing, indexes),
        ]
        for value in wrong + NO_INTEGERS + NO_LISTS:
            self.assertIs(lets_writing(heads, 2, value), False)
        for odd in NO_INTEGERS:
            self.assertIs(lets_writing(heads, 2, (word, [odd] + writing[1:], indexes)), False)
            self.assertIs(lets_writing(heads, 2, (word, writing, [odd])), False)
        self.assertIs(lets_writing(heads=heads, places=2, value=writing_paper(heads=heads, places=2)), True)
        self.assertIs(lets_writing(["a", "b", "a"], 1, ("best", [0, 0, 0], [1, 1])), False)
        # Alike by ==, but True is no index.
        self.assertIs(lets_writing(["a", "b", "a"], 1, ("best", [0, 0, 0], [1])), True)
        self.assertIs(lets_writing(["a", "b", "a"], 1, ("best", [0, 0, 0], [True])), False)
        self.assertIs(lets_writing(["a", "b", "a"], 1, ("best", [False, 0, 0], [1])), False)

    def test_lists_may_be_changed(self):
        heads = ["a", "b", "a"]
        paper = writing_paper(heads, 1)
        paper[1].clear()
        best_writing(heads, 1).clear()
        gaps_of(heads).clear()
        self.same(heads, ["a", "b", "a"])
        self.same(writing_paper(heads, 1)[1], [0, 0, 0])
