"""[9], [10], [12]: which heads are short, and how long letters are."""

from itertools import product

from tests.help import NO_INTEGERS, NO_LISTS, Case, dice
from tests.test_books import NO_NAMES
from wholeline.books import Book, write_heads
from wholeline.errors import BadHead, BadPart
from wholeline.lengths import distances, letter_lengths, places_for, shorts
from wholeline.letters import Mail

MAIL = Mail([[(("x", "y"), 3), (("x", "x"), 0)], [((), 60), (("y", "z", "y"), 1)]])


def plain_distance(heads, index):
    uses = [use for use in range(index) if heads[use] == heads[index]]
    return len(set(heads[uses[-1] + 1:index])) if uses else None


def plain_lengths(mail, places, cost):
    book = Book(places)
    lengths = []
    for heads, body in mail.letters_told():
        words, book = write_heads(book, heads)
        lengths.append(body + sum(1 if word[0] == "short" else cost for word in words))
    return lengths


def some_mail(roll):
    letters = [
        (tuple(roll.choice("abcde") for _ in range(roll.randrange(5))), roll.randrange(5))
        for _ in range(roll.randrange(1, 7))
    ]
    return Mail([letters, letters[::-1]])


class DistancesTest(Case):
    def test_examples(self):
        self.same(distances(["a", "b", "a", "a", "c", "b"]), [None, None, 1, 0, None, 2])
        self.same(distances(heads=()), [])

    def test_against_a_plain_search(self):
        for many in range(6):
            for heads in product("abc", repeat=many):
                self.same(distances(heads), [plain_distance(heads, index) for index in range(many)])

    def test_errors(self):
        for heads in NO_LISTS:
            self.raises(BadHead(None), distances, heads)
            self.raises(BadHead(None), shorts, heads, None)
        for name in NO_NAMES:
            self.raises(BadHead(1), distances, ["a", name, name])
            self.raises(BadHead(1), shorts, ["a", name, name], None)
        for places in NO_INTEGERS + [-1, 5]:
            self.raises(BadPart("places"), shorts, ["a"], places)


class ShortsTest(Case):
    def test_examples(self):
        heads = ["x", "y", "x", "x"]
        self.same(shorts(heads, 0), [False] * 4)
        self.same(shorts(heads, 1), [False, False, False, True])
        self.same(shorts(heads=heads, places=2), [False, False, True, True])

    def test_just_as_the_book(self):
        roll = dice(4)
        for _ in range(300):
            heads = [roll.choice("abcdef") for _ in range(roll.randrange(16))]
            for places in range(5):
                words = write_heads(Book(places), heads)[0]
                self.same(shorts(heads, places), [word[0] == "short" for word in words])

    def test_one_place_more_never_costs_more(self):
        roll = dice(5)
        for _ in range(100):
            heads = [roll.choice("abcdef") for _ in range(16)]
            for places in range(4):
                pairs = zip(shorts(heads, places), shorts(heads, places + 1))
                self.assertTrue(all(more or not less for less, more in pairs))


class LetterLengthsTest(Case):
    def test_examples(self):
        self.same(letter_lengths(MAIL, 0, 2), [7, 4, 60, 7])
        self.same(letter_lengths(MAIL, 1, 9), [21, 10, 60, 28])
        self.same(letter_lengths(mail=MAIL, places=2, cost=9), [21, 2, 60, 12])
        self.same(letter_lengths(Mail([[((), 0)]]), 4, 9), [0])

    def test_against_the_book(self):
        roll = dice(6)
        for _ in range(100):
            mail = some_mail(roll)
            for places in range(5):
                for cost in (2, 9):
                    lengths = letter_lengths(mail, places, cost)
                    self.same(lengths, plain_lengths(mail, places, cost))
                    if places:
                        fewer = letter_lengths(mail, places - 1, cost)
                        self.assertTrue(all(one <= other for one, other in zip(lengths, fewer)))

    def test_errors(self):
        for mail in NO_INTEGERS + [[[((), 0)]]]:
            self.raises(BadPart("mail"), letter_lengths, mail, None, None)
            self.raises(BadPart("mail"), places_for, mail, None, None)
        for places in NO_INTEGERS + [-1, 5]:
            self.raises(BadPart("places"), letter_lengths, MAIL, places, None)
        for cost in NO_INTEGERS + [1, 10]:
            self.raises(BadPart("cost"), letter_lengths, MAIL, 4, cost)
            self.raises(BadPart("cost"), places_for, MAIL, cost, None)
        for most in NO_INTEGERS + [-1]:
            self.raises(BadPart("most"), places_for, MAIL, 2, most)


class PlacesForTest(Case):
    def test_examples(self):
        self.assertIs(places_for(MAIL, 9, 59), None)
        self.same(places_for(MAIL, 9, 60), 0)
        self.same(places_for(mail=Mail([[(("x",) * 4, 0)]]), cost=9, most=12), 1)
        self.same(places_for(Mail([[((), 0)]]), 2, 0), 0)

    def test_against_a_plain_search(self):
        roll = dice(7)
        for _ in range(60):
            mail = some_mail(roll)
            for most in range(0, 42, 3):
                fitting = [places for places in range(5) if max(plain_lengths(mail, places, 9)) <= most]
                self.same(places_for(mail, 9, most), fitting[0] if fitting else None)
