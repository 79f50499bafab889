"""Books, by which heads are sent short."""

from wholeline.errors import BadName, BadPart, BadWord, BadWords
from wholeline.kinds import ALPHABET, is_between, is_index, is_list, is_name, is_told_by
from wholeline.letters import check_heads

MOST_PLACES = 4


def is_word(value):
    """Whether any value is a short or a long word."""
    if is_told_by(value, "short", 2):
        return is_index(value[1], MOST_PLACES)
    return is_told_by(value, "long", 2) and is_name(value[1])


def check_places(places):
    """Raise BadPart if no book has so many places."""
    if not is_between(places, 0, MOST_PLACES):
        raise BadPart("places")


def next_of(slots, order):
    """The place for the next long head: the least blank one, or the oldest one."""
    if len(order) < len(slots):
        return slots.index(None)
    return order[0] if order else None


def slots_behind(places, uses):
    """What the places hold behind these uses, and the places by their last use."""
    slots = [None] * places
    order = []
    for head in uses:
        place = slots.index(head) if head in slots else next_of(slots, order)
        if place is not None:
            slots[place] = head
            order = [old for old in order if old != place] + [place]
    return tuple(slots), tuple(order)


class Book:
    """A book of 0 to 4 places, behind the uses of some heads."""

    def __init__(self, places, uses=()):
        check_places(places)
        check_heads(uses)
        slots, order = slots_behind(places, uses)
        self.places = places
        self.slots = slots
        self.order = order

    def held(self):
        """The tuple of what the places hold, None for blank."""
        return self.slots

    def oldest_first(self):
        """The list of the places that hold a head, by their last use."""
        return list(self.order)

    def place_of(self, head):
        """The place of any value that the book holds, or None."""
        return self.slots.index(head) if head in self else None

    def next_place(self):
        """Where the next long head is written, None with 0 places."""
        return next_of(self.slots, self.order)

    def used(self, head):
        """The Book behind one more use."""
        if not is_name(head):
            raise BadName(head)
        # Places fill from 0 on, so these uses give this very book again.
        written = [old for old in self.slots if old is not None]
        used_again = [self.slots[place] for place in self.order]
        return Book(self.places, [*written, *used_again, head])

    def word_for(self, head):
        """The word for a head."""
        if not is_name(head):
            raise BadName(head)
        place = self.place_of(head)
        return ("long", head) if place is None else ("short", place)

    def head_for(self, word):
        """The head as which a word is read."""
        head = read_head(self, word)
        if head is None:
            raise BadWord(word)
        return head

    def __contains__(self, head):
        return isinstance(head, str) and head in self.slots

    def __len__(self):
        return len(self.order)

    def __eq__(self, other):
        if not isinstance(other, Book):
            return False
        return self.places == other.places and self.slots == other.slots and self.order == other.order


def read_head(book, word):
    """The head as which a book reads any value, None if it cannot."""
    if not is_word(word):
        return None
    if word[0] == "long":
        return word[1]
    return book.held()[word[1]] if word[1] < book.places else None


def check_book(book):
    """Raise BadPart if any value is no Book."""
    if not isinstance(book, Book):
        raise BadPart("book")


def write_heads(book, heads):
    """The words for some heads, and the Book behind them."""
    check_book(book)
    check_heads(heads)
    words = []
    for head in heads:
        words.append(book.word_for(head))
        book = book.used(head)
    return words, book


def read_words(book, words):
    """The heads as which some words are read, and the Book behind them."""
    check_book(book)
    if not is_list(words):
        raise BadWords(None)
    heads = []
    for index, word in enumerate(words):
        head = read_head(book, word)
        if head is None:
            raise BadWords(index)
        heads.append(head)
        book = book.used(head)
    return heads, book


def check_pair(one, other):
    """Raise BadPart if these are no two Books of as many places."""
    if not isinstance(one, Book):
        raise BadPart("one")
    if not isinstance(other, Book) or other.places != one.places:
        raise BadPart("other")


def parting_words(one, other):
    """As few words as can be that part two books, None if these are alike."""
    check_pair(one, other)
    for place in range(one.places):
        if one.held()[place] != other.held()[place]:
            return [("short", place)]
    pairs = list(zip(one.oldest_first(), other.oldest_first()))
    for same, (place, elsewhere) in enumerate(pairs):
        if place != elsewhere:
            return overwriting_words(one, same + 1) + [("short", place)]
    return None


def overwriting_words(book, many):
    """Long words that fill the blank places and then write over so many others."""
    fresh = [sign for sign in ALPHABET if sign not in book]
    blank = book.places - len(book)
    return [("long", name) for name in fresh[:blank + many]]


def is_parting(one, other, value):
    """Whether any value is a list of words that parts two books."""
    check_pair(one, other)
    if not isinstance(value, list) or len(value) == 0:
        return False
    for word in value[:-1]:
        head = read_head(one, word)
        if head is None or head != read_head(other, word):
            return False
        one = one.used(head)
        other = other.used(head)
    return read_head(one, value[-1]) != read_head(other, value[-1])
