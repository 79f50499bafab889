"""[9], [11]: books, their words, and what parts two of them."""

from itertools import product

from tests.help import NO_INTEGERS, NO_LISTS, Case, Prickly, Same, dice
from wholeline.books import (Book, is_parting, is_word, parting_words, read_words, write_heads)
from wholeline.errors import BadHead, BadName, BadPart, BadWord, BadWords

NO_NAMES = [True, None, 0, "", "A", "abcdefghi", "a1", "a ", b"a", ("a",), ["a"], Prickly()]
NO_WORDS = [
    None, True, 1, "short", (), ("short",), ("short", 0, 0), ["short", 0], ("short", -1), ("short", 4),
    ("short", True), ("short", None), ("short", "a"), ("long", ""), ("long", 0), ("long", "A"), ("long", None),
    ["long", "a"], ("long", "a", "b"), ("middle", "a"), (0, 0), (Prickly(), 0), ("long", Prickly()),
    ("short", Prickly()), Prickly(), {"short": 0}, b"ab",
]


def plain_use(state, head):
    """A use of a head by the words of [9]: state is (places, uses), each place a list of its last use and head."""
    slots, order = state
    slots, order = list(slots), list(order)
    if head in slots:
        place = slots.index(head)
    elif None in slots:
        place = slots.index(None)
    elif slots:
        place = order[0]
    else:
        return state
    slots[place] = head
    if place in order:
        order.remove(place)
    order.append(place)
    return tuple(slots), tuple(order)


def plain_read(state, word):
    if word[0] == "long":
        return word[1]
    return state[0][word[1]] if word[1] < len(state[0]) else None


def plain_state(places, uses):
    state = ((None,) * places, ())
    for head in uses:
        state = plain_use(state, head)
    return state


def plain_parting(one, other, names):
    """The least number of words that part two states, by breadth first, None if there are none."""
    words = [("short", place) for place in range(4)] + [("long", name) for name in names]
    seen = {(one, other)}
    level = [(one, other)]
    many = 1
    while level:
        following = []
        for left, right in level:
            for word in words:
                head, also = plain_read(left, word), plain_read(right, word)
                if head != also:
                    return many
                if head is not None:
                    pair = (plain_use(left, head), plain_use(right, head))
                    if pair not in seen:
                        seen.add(pair)
                        following.append(pair)
        level = following
        many += 1
    return None


class IsWordTest(Case):
    def test_words(self):
        for value in [("short", place) for place in range(4)] + [("long", "a"), ("long", "abcdefgh")]:
            self.assertIs(is_word(value), True)

    def test_no_words(self):
        for value in NO_WORDS:
            self.assertIs(is_word(value), False)


class BookTest(Case):
    def test_places(self):
        for places in range(5):
            book = Book(places)
            self.assertEqual(book.places, places)
            self.same(book.held(), (None,) * places)
            self.same(book.oldest_first(), [])
            self.assertEqual(len(book), 0)
            self.same(book.next_place(), 0 if places else None)

    def test_wrong_places_and_uses(self):
        for places in NO_INTEGERS + [-1, 5]:
            self.raises(BadPart("places"), Book, places, None)
        for uses in NO_LISTS:
            self.raises(BadHead(None), Book, 2, uses)
        for name in NO_NAMES:
            self.raises(BadHead(0), Book, 0, [name])
            self.raises(BadHead(2), Book, 1, ["a", "b", name, ""])

    def test_heads_that_are_held(self):
        names = ["a", "b", "c", "d", "e", "abcdefgh"]
        others = NO_NAMES + NO_INTEGERS + NO_LISTS + [1, 2, 4, "short", "none", "aa", " a", "a\n", ("long", "a"), Same()]
        for places in range(5):
            for uses in product(names, repeat=3):
                book = Book(places, uses)
                held = plain_state(places, uses)[0]
                for name in names:
                    self.assertIs(name in book, name in held)
                    self.assertIs(name not in book, name not in held)
                self.same(book.held(), held)
        for places in range(5):
            for value in others:
                self.assertIs(value in Book(places), False)
                self.assertIs(value in Book(places, ["a", "b", "c"]), isinstance(value, str) and value == "a" and places >= 3)

    def test_a_book_without_places_holds_nothing(self):
        for uses in ([], ["a"], ["a", "b", "a"]):
            for value in ["a", "b", None, 0, True, (), [], "", "A", Prickly()]:
                self.assertIs(value in Book(0, uses), False)

    def test_blank_place_is_filled_first(self):
        book = Book(3, ["a", "b"])
        self.same(book.held(), ("a", "b", None))
        self.same(book.next_place(), 2)
        self.same(Book(places=3, uses=("a", "b", "a")).oldest_first(), [1, 0])

    def test_oldest_is_written_over(self):
        book = Book(2, ["a", "b", "a", "c"])
        self.same(book.held(), ("a", "c"))
        self.same(book.oldest_first(), [0, 1])
        self.same(book.next_place(), 0)

    def test_no_places(self):
        book = Book(0, ["a", "a"])
        self.same(book.held(), ())
        self.assertIs("a" in book, False)
        self.same(book.word_for("a"), ("long", "a"))
        self.same(book.used("a").held(), ())

    def test_against_the_rule(self):
        roll = dice(1)
        for _ in range(300):
            places = roll.randrange(5)
            uses = [roll.choice("abcdef") for _ in range(roll.randrange(14))]
            slots, order = plain_state(places, uses)
            book = Book(places, uses)
            self.same((book.held(), book.oldest_first()), (slots, list(order)))
            self.assertEqual(len(book), len(order))
            stepwise = Book(places)
            for head in uses:
                stepwise = stepwise.used(head)
            self.equal_ones(stepwise, book)

    def test_place_of(self):
        book = Book(2, ["a", "b"])
        self.same([book.place_of("a"), book.place_of("b"), book.place_of("c")], [0, 1, None])
        for value in NO_INTEGERS + NO_LISTS + [0, ["a"], ("a",)]:
            self.assertIs(Book(2, ["c", "d"]).place_of(value), None)
            self.assertIs(value in Book(2, ["c", "d"]), False)
        self.assertIs("a" in book, True)
        self.assertIs(None in Book(1), False)

    def test_used(self):
        book = Book(2, ["a"])
        self.same(book.used("b").held(), ("a", "b"))
        self.same(book.used(head="a").held(), ("a", None))
        self.same(book.held(), ("a", None))
        for name in NO_NAMES:
            self.raises(BadName(name), book.used, name)
            self.raises(BadName(name), book.word_for, name)

    def test_words(self):
        book = Book(2, ["a"])
        self.same(book.word_for("a"), ("short", 0))
        self.same(book.word_for("b"), ("long", "b"))
        self.same(book.head_for(("short", 0)), "a")
        self.same(book.head_for(("long", "a")), "a")
        self.same(book.head_for(word=("long", "b")), "b")
        for word in NO_WORDS + [("short", 1), ("short", 2), ("short", 3)]:
            self.raises(BadWord(word), book.head_for, word)
        self.raises(BadWord(("short", 0)), Book(0).head_for, ("short", 0))

    def test_equal(self):
        self.equal_ones(Book(2, ["a", "b"]), Book(2, ["a", "a", "b"]))
        self.unlike_ones(Book(2, ["a", "b"]), Book(2, ["a", "b", "a"]))
        self.unlike_ones(Book(2, ["a"]), Book(3, ["a"]))
        self.unlike_ones(Book(2, ["a"]), Book(2, ["b"]))
        self.unlike_ones(Book(0), Book(1))
        self.unlike_others(Book(0))
        self.not_iterated(Book(1, ["a"]))

    def test_lists_may_be_changed(self):
        uses = ["a", "b"]
        book = Book(3, uses)
        uses.append("c")
        book.oldest_first().clear()
        self.same((book.held(), book.oldest_first()), (("a", "b", None), [0, 1]))


class WritingTest(Case):
    def test_example(self):
        words = write_heads(Book(1), ["x", "x", "y"])[0]
        self.same(words, [("long", "x"), ("short", 0), ("long", "y")])

    def test_read_as_written(self):
        roll = dice(2)
        for _ in range(200):
            book = Book(roll.randrange(5), [roll.choice("abc") for _ in range(3)])
            heads = [roll.choice("abcdef") for _ in range(roll.randrange(10))]
            words, behind = write_heads(book, heads)
            self.same(read_words(book, words)[0], heads)
            self.equal_ones(read_words(book, words)[1], behind)
            here = book
            for head in heads:
                here = here.used(head)
            self.equal_ones(behind, here)

    def test_long_word_for_a_held_head(self):
        heads, book = read_words(Book(2, ["a", "b"]), [("long", "a"), ("short", 0)])
        self.same(heads, ["a", "a"])
        self.same((book.held(), book.oldest_first()), (("a", "b"), [1, 0]))

    def test_nothing(self):
        self.same(write_heads(Book(1), ())[0], [])
        self.same(read_words(Book(1), ())[0], [])

    def test_write_errors(self):
        for book in NO_INTEGERS + [0]:
            self.raises(BadPart("book"), write_heads, book, None)
            self.raises(BadPart("book"), read_words, book, None)
        for heads in NO_LISTS:
            self.raises(BadHead(None), write_heads, Book(1), heads)
        for name in NO_NAMES:
            self.raises(BadHead(1), write_heads, Book(1), ["a", name, name])

    def test_read_errors(self):
        for words in NO_LISTS:
            self.raises(BadWords(None), read_words, Book(1), words)
        for word in NO_WORDS:
            self.raises(BadWords(1), read_words, Book(1), [("long", "a"), word])
        self.raises(BadWords(0), read_words, Book(1), [("short", 0), None])
        self.raises(BadWords(1), read_words, Book(2), [("long", "a"), ("short", 1), None])
        self.raises(BadWords(0), read_words, Book(0), [("short", 0)])
        self.same(read_words(book=Book(1), words=[("long", "a"), ("short", 0)])[0], ["a", "a"])
        self.same(write_heads(book=Book(1), heads=["a"])[0], [("long", "a")])


class PartingTest(Case):
    def test_errors(self):
        for value in NO_INTEGERS:
            self.raises(BadPart("one"), parting_words, value, value)
            self.raises(BadPart("other"), parting_words, Book(0), value)
            self.raises(BadPart("one"), is_parting, value, value, [])
            self.raises(BadPart("other"), is_parting, Book(0), value, [])
        self.raises(BadPart("other"), parting_words, Book(1), Book(2))
        self.raises(BadPart("other"), is_parting, Book(2), Book(1), [("short", 1)])

    def test_alike(self):
        self.assertIs(parting_words(Book(2, ["a"]), Book(2, ["a", "a"])), None)
        self.assertIs(parting_words(Book(0), Book(0, ["a"])), None)

    def test_unlike_things(self):
        self.assertEqual(len(parting_words(Book(2, ["a"]), Book(2, ["a", "b"]))), 1)
        self.assertEqual(len(parting_words(Book(1, ["a"]), Book(1, ["b"]))), 1)

    def test_unlike_orders(self):
        one = Book(4, ["a", "b", "c"])
        self.assertEqual(len(parting_words(one, Book(4, ["a", "b", "c", "b"]))), 1 + 1 + 2)
        self.assertEqual(len(parting_words(one, Book(4, ["a", "b", "c", "a"]))), 0 + 1 + 2)
        full = Book(4, ["a", "b", "c", "d"])
        self.assertEqual(len(parting_words(full, Book(4, ["a", "b", "c", "d", "c"]))), 2 + 2)

    def test_fewest_against_a_plain_search(self):
        for places in (0, 1, 2, 3):
            lists = [list(uses) for many in range(6) for uses in product("abc", repeat=many)]
            books = {plain_state(places, uses): Book(places, uses) for uses in lists}
            for one, book in books.items():
                for other, further in books.items():
                    self.check_pair(one, other, book, further)

    def check_pair(self, one, other, book, further):
        words = parting_words(book, further)
        least = None if one == other else plain_parting(one, other, "abcxyz")
        self.assertEqual(None if words is None else len(words), least)
        if words is not None:
            self.assertIs(is_parting(book, further, words), True)
            self.assertIs(is_parting(further, book, words), True)
            self.assertIs(is_parting(book, further, tuple(words)), False)
            self.assertIs(is_parting(book, further, words + [("long", "a")]), False)
            self.assertIs(is_parting(book, further, words[:-1]), False)

    def test_four_places(self):
        roll = dice(3)
        for _ in range(200):
            uses = [roll.choice("abcd") for _ in range(8)]
            others = [roll.choice("abcd") for _ in range(8)]
            one, other = Book(4, uses), Book(4, others)
            words = parting_words(one, other)
            if words is None:
                self.equal_ones(one, other)
                continue
            self.assertTrue(is_parting(one, other, words))
            if one.held() != other.held():
                self.assertEqual(len(words), 1)
            else:
                pairs = zip(one.oldest_first(), other.oldest_first())
                same = next(index for index, (left, right) in enumerate(pairs) if left != right)
                self.assertEqual(len(words), same + 2 + one.held().count(None))

    def test_is_parting(self):
        one, other = Book(2, ["a", "b"]), Book(2, ["b", "a"])
        self.assertIs(is_parting(one, other, [("short", 0)]), True)
        self.assertIs(is_parting(one, other, [("short", 0), ("short", 0)]), False)
        self.assertIs(is_parting(one, other, [("long", "c")]), False)
        self.assertIs(is_parting(Book(2, ["a"]), Book(2, ["a", "b"]), [("short", 1)]), True)
        self.assertIs(is_parting(Book(2, ["a"]), Book(2, ["a", "b"]), [("short", 1), ("short", 1)]), False)
        self.assertIs(is_parting(Book(2, ["a"]), Book(2, ["a"]), []), False)
        self.assertIs(is_parting(Book(2, ["a"]), Book(2, ["a"]), [("short", 1)]), False)
        self.assertIs(is_parting(one, other, []), False)
        for value in NO_LISTS + [(("short", 0),)]:
            self.assertIs(is_parting(one, other, value), False)
        for word in NO_WORDS:
            self.assertIs(is_parting(one, other, [word]), False)
            self.assertIs(is_parting(one, other, [word, ("short", 0)]), False)
