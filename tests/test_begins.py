"""[21]: the best begins under a gap."""

from itertools import combinations, permutations, product

from tests.help import NO_INTEGERS, NO_LISTS, Case, Prickly, dice
from wholeline.begins import best_begins, shows_begins
from wholeline.errors import BadPart
from wholeline.ways import Way

WAYS = [Way(0, 1, 10), Way(None, 1, 2), Way(7, 2, 3), Way(1, 1, 3)]


def plain_plans(ways, allowed, silent, gap):
    """All plans whose begins are no later than can be of use."""
    last = gap * (len(allowed) - 1)
    spots = [None] + list(range(last + 1))
    for begins in product(*[spots if way in allowed else [None] for way in range(len(ways))]):
        begun = sorted(begin for begin in begins if begin is not None)
        if len(begun) > silent and all(later - sooner >= gap for sooner, later in zip(begun, begun[1:])):
            yield begins


def plain_is_plan(allowed, silent, gap, begins):
    begun = [way for way, begin in enumerate(begins) if begin is not None]
    apart = all(abs(begins[one] - begins[other]) >= gap for one, other in combinations(begun, 2))
    return apart and len(begun) > silent and all(way in allowed and begins[way] >= 0 for way in begun)


def plain_end(ways, silent, begins):
    return sorted(begin + 2 * way.most for way, begin in zip(ways, begins) if begin is not None)[silent]


def small_cases():
    roll = dice(31)
    for _ in range(60):
        ways = [Way(roll.choice([None, 5]), 1, roll.randrange(1, 6)) for _ in range(roll.randrange(1, 4))]
        allowed = [way for way in range(len(ways)) if roll.random() < 0.8]
        roll.shuffle(allowed)
        if allowed:
            yield ways, allowed, roll.randrange(len(allowed)), roll.choice([0, 1, 2, 4])


class BestBeginsTest(Case):
    def test_against_all_plans(self):
        for ways, allowed, silent, gap in small_cases():
            end, begins, paper = best_begins(ways, allowed, silent, gap)
            plans = list(plain_plans(ways, allowed, silent, gap))
            self.same(end, min(plain_end(ways, silent, plan) for plan in plans))
            self.assertIn(begins, plans)
            self.assertEqual(plain_end(ways, silent, begins), end)
            self.assertIs(shows_begins(ways, allowed, silent, gap, end, begins, paper), True)

    def test_kinds(self):
        end, begins, paper = best_begins(ways=WAYS, allowed=[3, 0, 1], silent=1, gap=4)
        self.same(end, 8)
        self.assertEqual([type(begins), type(paper), type(paper[1])], [tuple, tuple, tuple])
        self.same(best_begins(WAYS, (0, 1, 2, 3), 3, 500)[0], 1504)

    def test_greatest_and_least_delays(self):
        ways = [Way(0, 1, 50), Way(0, 1, 1), Way(0, 50, 50)]
        for silent, end in ((0, 2), (1, 100), (2, 107)):
            told = best_begins(ways, [0, 1, 2], silent, 7)
            self.same(told[0], end)
            self.assertIs(shows_begins(ways, [0, 1, 2], silent, 7, *told), True)

    def test_gap_0(self):
        end, begins, paper = best_begins(WAYS, [0, 1, 2], 1, 0)
        self.same(end, 6)
        self.assertIs(shows_begins(WAYS, [0, 1, 2], 1, 0, end, begins, paper), True)
        self.assertIs(shows_begins(WAYS, [0, 1, 2], 1, 0, 6, (None, 0, 0, None), (0, (0, 2))), True)

    def test_gap_500(self):
        end, begins, paper = best_begins(WAYS, [0, 1, 2, 3], 3, 500)
        self.assertEqual(sorted(begins), [0, 500, 1000, 1500])
        self.assertIs(shows_begins(WAYS, [0, 1, 2, 3], 3, 500, end, begins, paper), True)
        self.assertIs(shows_begins(WAYS, [0, 1, 2, 3], 3, 500, 1504, (0, 1500, 1000, 500), (3, (0, 1, 2, 3))), True)
        self.assertIs(shows_begins(WAYS, [0, 1, 2, 3], 3, 500, 1504, (0, 1500, 1000, 501), (3, (0, 1, 2, 3))), False)

    def test_errors(self):
        nothing = (0, (), ())

        def shown(ways, allowed, silent, gap):
            return shows_begins(ways, allowed, silent, gap, *nothing)

        for call in (best_begins, shown):
            for ways in NO_LISTS + [[], WAYS + WAYS[:1], [Way(0, 1, 1), None]]:
                self.raises(BadPart("ways"), call, ways, None, None, None)
            for allowed in NO_LISTS + [[0, 0], [4], [-1], [True], [0, None], [0, [1]], [Prickly()]]:
                self.raises(BadPart("allowed"), call, WAYS, allowed, None, None)
            for silent in NO_INTEGERS + [-1, 4]:
                self.raises(BadPart("silent"), call, WAYS, [], silent, None)
            for gap in NO_INTEGERS + [-1, 501]:
                self.raises(BadPart("gap"), call, WAYS, [], 0, gap)
            for silent in range(4):
                self.raises(BadPart("allowed"), call, WAYS, list(range(silent)), silent, 500)

    def test_lists_may_be_changed(self):
        ways, allowed = list(WAYS), [3, 0, 1]
        best_begins(ways, allowed, 1, 4)
        self.assertEqual((ways, allowed), (WAYS, [3, 0, 1]))


class ShowsBeginsTest(Case):
    def test_what_is_accepted_is_so(self):
        for ways, allowed, silent, gap in list(small_cases())[:12]:
            least = best_begins(ways, allowed, silent, gap)[0]
            lots = [lot for many in range(4) for lot in combinations(range(len(ways)), many)]
            papers = [(index, lot) for index in range(-1, 4) for lot in lots]
            spots = [None] + list(range(-1, gap * len(ways) + 1, 2 if gap > 1 else 1))
            for begins in product(spots, repeat=len(ways)):
                for end in (least - 1, least, least + 1):
                    for paper in papers:
                        if shows_begins(ways, allowed, silent, gap, end, begins, paper):
                            self.assertEqual(end, least)
                            self.assertEqual(plain_end(ways, silent, begins), end)
                            self.assertTrue(plain_is_plan(allowed, silent, gap, begins))

    def test_refused(self):
        ways = [Way(0, 1, 1), Way(0, 1, 2), Way(0, 1, 2)]
        right = (5, (3, 0, None), (0, (0, 1, 2)))
        end, begins, paper = best_begins(ways, [0, 1, 2], 1, 3)
        self.same(end, 5)
        self.assertIs(shows_begins(ways, [0, 1, 2], 1, 3, end, begins, paper), True)

        def shown(end=end, begins=begins, paper=paper):
            return shows_begins(ways, [0, 1, 2], 1, 3, end, begins, paper)

        self.assertIs(shown(), True)
        self.assertIs(shown(begins=(3, None, 0)), True)
        self.assertIs(shown(*right), False)
        for value in NO_INTEGERS + [4, 6]:
            self.assertIs(shown(end=value), False)
        for odd in NO_INTEGERS + NO_LISTS + [list(begins), begins + (None,), begins[:-1], (None,) * 3]:
            self.assertIs(shown(begins=odd), False)
        for odd in ((3, 0, -1), (3, False, None), (3, 1, None), (3, 2, None), (True, None, 4), (None, None, 0)):
            self.assertIs(shown(begins=odd), False)
        index, lot = paper
        for odd in NO_INTEGERS + NO_LISTS + [list(paper), (index,), (index, lot, 0), (index, list(lot)), (index, ()),
                                             (-1, lot), (2, lot), (True, lot), (index, lot[::-1] + (9,)), (1, (1, 2)),
                                             (index, None), (None, lot), (Prickly(), lot), (index, (Prickly(),))]:
            self.assertIs(shown(paper=odd), False)
        self.assertIs(shows_begins(ways, [0, 1], 1, 3, 5, (3, 0, None), (1, (0, 1))), True)
        self.assertIs(shows_begins(ways, [0, 1], 1, 3, 5, (3, 0, 9), (1, (0, 1))), False)
        self.assertIs(shows_begins(ways, [0, 1], 1, 3, 5, (3, 0, None), (1, (0, 2))), False)

    def test_great_begins(self):
        ways = [Way(0, 1, 1)] * 3
        for begins in permutations((0, 500, 4000)):
            self.assertIs(shows_begins(ways, [0, 1, 2], 1, 500, 502, begins, (1, (0, 1, 2))), True)
