"""[28]: chains, which show that so many signs do not do."""

from itertools import combinations, product

from tests.help import NO_INTEGERS, Case, Prickly, Same, dice
from wholeline.boxes import Lull
from wholeline.errors import BadNumber
from wholeline.gaps import quiet_gap
from wholeline.signpapers import barring_chain, bars_signs, shows_best
from wholeline.signs import best_signs

LULL = Lull(1, 2, 1, 20)
NO_CHAINS = [
    None, True, 0, 1, "", "0", (), [], [7, 5], {0: 1}, (None,), (True, 0), ("a", "b"), (0, True), ((),), Prickly(),
    (Prickly(),), (Prickly(), 0), (2, Prickly()), Same(), (Same(),), object(), range(2), b"ab", (-1,), (0, -1), (99, 0),
]


def plain_bars(lull, limit, count, chain):
    """Whether a tuple of integers is a chain that bars so many signs, by the words of [28]."""
    top, between = count + 1 + lull.losses, lull.losses + 1
    if not chain or any(not 0 <= place <= top for place in chain):
        return False
    if not (chain[-1] == 0 or chain[-1] > count):
        return False
    if not (chain[0] == 0 or chain[0] > count or (chain[0] == 1 and count != 0)):
        return False
    told = {0: -2 * lull.delay, 1: 1}
    told.update({count + 1 + lost: lull.quiet + lost * lull.turn for lost in range(lull.losses + 1)})
    bound = told[chain[-1]]
    for place, further in zip(chain, chain[1:]):
        if 1 <= place <= count and further == place + 1:
            bound -= 1
        elif place >= between and further == place - between:
            bound += limit
        else:
            return False
    return told[chain[0]] > bound


def small_lulls(top):
    for delay in (1, 2):
        for turn in (2 * delay, 2 * delay + 3):
            for losses in (1, 2, 3):
                for quiet in range(1, top):
                    yield Lull(delay, turn, losses, quiet)


class BarsTest(Case):
    def test_all_short_chains(self):
        shown = 0
        for lull in small_lulls(5):
            for count in range(lull.quiet):
                gap = min(quiet_gap(lull, signs) for signs in combinations(range(1, lull.quiet), count))
                for limit in range(1, gap + 2):
                    for many in range(4):
                        for chain in product(range(-1, count + lull.losses + 3), repeat=many):
                            does = plain_bars(lull, limit, count, chain)
                            self.assertIs(bars_signs(lull, limit, count, chain), does)
                            shown += does
                            # What it says is so.
                            self.assertFalse(does and gap <= limit)
        self.assertGreater(shown, 500)

    def test_random_chains(self):
        roll = dice(81)
        shown = 0
        for _ in range(4000):
            lull = Lull(1, roll.randrange(2, 9), roll.randrange(1, 4), roll.randrange(3, 30))
            count = roll.randrange(lull.quiet)
            limit = roll.randrange(1, 20)
            chain = barring_chain(lull, limit - roll.randrange(limit), count)
            if chain is None or roll.random() < 0.4:
                chain = [roll.choice([0, 1, count + 1, count + 1 + roll.randrange(lull.losses + 1)])]
                for _ in range(roll.randrange(12)):
                    chain.append(chain[-1] + roll.choice([1, -lull.losses - 1]))
            chain = tuple(chain)
            does = plain_bars(lull, limit, count, chain)
            shown += does
            self.assertIs(bars_signs(lull, limit, count, chain), does)
            if does:
                self.assertIsNotNone(barring_chain(lull, limit, count))
                self.assertTrue(best_signs(lull, limit) is None or len(best_signs(lull, limit)) > count)
        self.assertGreater(shown, 100)

    def test_first_places(self):
        # With signs a first place of 0, of 1 and above their number; one between is none.
        self.assertIs(bars_signs(LULL, 1, 2, (1, 2, 0)), True)
        self.assertIs(bars_signs(LULL, 1, 2, (2, 0)), False)
        self.assertIs(bars_signs(LULL, 1, 2, (0,)), False)
        self.assertIs(bars_signs(LULL, 1, 2, (3, 1, 2, 0)), True)
        self.assertIs(bars_signs(LULL, 17, 2, (3, 1, 2, 3)), False)
        # Without signs the place 1 is that of the next row.
        self.assertIs(bars_signs(LULL, 23, 0, (2, 0)), True)
        self.assertIs(bars_signs(LULL, 24, 0, (2, 0)), False)
        self.assertIs(bars_signs(LULL, 1, 0, (1, 2)), False)
        self.assertIs(bars_signs(LULL, 1, 0, (1,)), False)
        self.assertIs(bars_signs(LULL, 1, 0, (2,)), False)

    def test_chains_that_would_bar_but_for_their_first_place(self):
        lull = Lull(1, 2, 3, 20)
        self.assertIs(bars_signs(lull, 1, 6, (1, 2, 3, 4, 0)), True)
        self.assertIs(bars_signs(lull, 1, 6, (2, 3, 4, 0)), False)
        round_and_on = (7, 3, 4, 5, 6, 7, 3, 4, 0)
        self.assertIs(bars_signs(lull, 1, 6, round_and_on), True)
        self.assertIs(bars_signs(lull, 1, 6, (6,) + round_and_on), False)
        self.assertIs(bars_signs(lull, 1, 6, round_and_on[1:]), False)
        # And for their last one.
        self.assertIs(bars_signs(lull, 1, 6, (8, 4)), False)
        self.assertIs(bars_signs(lull, 1, 6, (8, 4, 5, 6)), False)
        self.assertIs(bars_signs(lull, 1, 6, (8, 4, 5, 6, 7)), True)

    def test_just_as_great_and_one_more(self):
        # The first stop is 22; the last one allows 20 - 1 + limit.
        chain = (4, 2, 3)
        self.same([bars_signs(LULL, limit, 2, chain) for limit in (2, 3, 4)], [True, False, False])
        # 1 step on and 1 back from the first sign, which counts as 1: -2 + limit - 1.
        self.same([bars_signs(LULL, limit, 2, (1, 2, 0)) for limit in (2, 3, 4, 5)], [True, True, False, False])

    def test_any_values(self):
        for value in NO_CHAINS:
            for count in (0, 1, 5):
                self.assertIs(bars_signs(LULL, 1, count, value), False)
        self.assertIs(bars_signs(lull=LULL, limit=23, count=0, chain=(2, 0)), True)
        self.assertIs(bars_signs(LULL, 23, 0, [2, 0]), False)
        self.assertIs(bars_signs(LULL, 23, 0, (2, False)), False)
        self.assertIs(bars_signs(LULL, 1, 2, (True, 2, 0)), False)

    def test_errors(self):
        for call in (lambda *told: bars_signs(*told, None), barring_chain):
            for value in NO_INTEGERS + [0, -1, 20001]:
                self.raises(BadNumber(value), call, LULL, value, -1)
            for value in NO_INTEGERS + [-1, 20]:
                self.raises(BadNumber(value), call, LULL, 1, value)
            self.raises(BadNumber(1), call, Lull(1, 2, 1, 1), 1, 1)
        self.assertIs(bars_signs(LULL, 20000, 19, None), False)


class BarringChainTest(Case):
    def test_just_where_no_signs_do(self):
        barred = 0
        for lull in small_lulls(9):
            for count in range(lull.quiet):
                gap = min(quiet_gap(lull, signs) for signs in combinations(range(1, lull.quiet), count))
                for limit in range(1, gap + 2):
                    chain = barring_chain(lull, limit, count)
                    if gap <= limit:
                        self.assertIsNone(chain)
                    else:
                        self.assertIs(bars_signs(lull, limit, count, chain), True)
                        self.assertTrue(plain_bars(lull, limit, count, chain))
                        barred += 1
        self.assertGreater(barred, 1000)

    def test_long_lulls(self):
        roll = dice(82)
        for _ in range(150):
            delay = roll.randrange(1, 51)
            lull = Lull(delay, roll.randrange(2 * delay, 201), roll.randrange(1, 4), roll.randrange(50, 501))
            limit = roll.randrange(1, quiet_gap(lull, ()) + 2)
            best = best_signs(lull, limit)
            if best is None:
                self.assertIsNotNone(barring_chain(lull, limit, lull.quiet - 1))
            else:
                self.assertIsNone(barring_chain(lull, limit, len(best)))
                if best:
                    self.assertIs(shows_best(lull, limit, best, barring_chain(lull, limit, len(best) - 1)), True)

    def test_by_name(self):
        self.assertTrue(plain_bars(LULL, 5, 6, barring_chain(lull=LULL, limit=5, count=6)))
        self.assertIsNone(barring_chain(LULL, 6, 6))


class ShowsBestTest(Case):
    def test_best_signs(self):
        chain = barring_chain(LULL, 6, 5)
        signs = (3, 4, 9, 10, 15, 16)
        self.assertIs(shows_best(lull=LULL, limit=6, signs=signs, chain=chain), True)
        # Other signs that do, as many, are the fewest, too.
        self.assertIs(shows_best(LULL, 6, (2, 3, 8, 9, 14, 16), chain), quiet_gap(LULL, (2, 3, 8, 9, 14, 16)) <= 6)
        self.assertIs(shows_best(LULL, 6, (3, 4, 9, 10, 15, 17), chain), False)
        self.assertIs(shows_best(LULL, 6, signs, (0,)), False)
        self.assertIs(shows_best(LULL, 6, list(signs), chain), False)
        self.assertIs(shows_best(LULL, 6, signs, list(chain)), False)
        self.assertIs(shows_best(LULL, 7, signs, chain), plain_bars(LULL, 7, 5, chain))
        self.assertIs(shows_best(LULL, 5, signs, chain), False)

    def test_one_sign_too_many(self):
        signs = (3, 4, 5, 9, 10, 15, 16)
        self.assertLessEqual(quiet_gap(LULL, signs), 6)
        for many in range(19):
            chain = barring_chain(LULL, 6, many)
            self.assertIs(shows_best(LULL, 6, signs, chain), False)

    def test_no_signs(self):
        # The empty signs need no chain.
        for chain in NO_CHAINS + [(2, 0)]:
            self.assertIs(shows_best(LULL, 24, (), chain), True)
            self.assertIs(shows_best(LULL, 23, (), chain), False)

    def test_one_sign(self):
        self.assertIs(shows_best(LULL, 23, (19,), (2, 0)), True)
        self.assertIs(shows_best(LULL, 23, (2,), (2, 0)), True)
        self.assertIs(shows_best(LULL, 23, (19,), (1, 0)), False)
        self.assertIs(shows_best(LULL, 24, (19,), (2, 0)), False)

    def test_any_values(self):
        wrong = [None, True, [], [19], (True,), (0,), (20,), (5, 5), (6, 5), ("a",), (Prickly(),), Prickly(), Same(),
                 (Same(),), (None,), "a", 19, ((19,),), {19: 1}]
        for signs in wrong:
            self.assertIs(shows_best(LULL, 20000, signs, (2, 0)), False)
        for chain in NO_CHAINS:
            self.assertIs(shows_best(LULL, 23, (19,), chain), False)
        for value in NO_INTEGERS + [0, 20001]:
            self.raises(BadNumber(value), shows_best, LULL, value, (), None)

    def test_what_it_says_is_so(self):
        roll = dice(83)
        shown = 0
        for lull in small_lulls(7):
            for limit in range(1, quiet_gap(lull, ()) + 1):
                best = best_signs(lull, limit)
                for count in range(lull.quiet):
                    chain = barring_chain(lull, limit, max(count - 1, 0))
                    for signs in list(combinations(range(1, lull.quiet), count))[:6]:
                        shows = shows_best(lull, limit, signs, chain)
                        want = quiet_gap(lull, signs) <= limit and len(best) == count
                        self.assertIs(shows, want)
                        shown += want
        self.assertGreater(shown, 100)
        self.assertLess(roll.random(), 1)
