"""[44], [46]: messages, their bytes, and the units of letters."""

from itertools import combinations

from tests.help import NO_INTEGERS, NO_LISTS, Case, Prickly, Same, dice
from tests.plainlines import random_letter
from wholeline.books import Book, write_heads
from wholeline.errors import BadBend, BadBytes, BadLetter, BadMessage, BadPart, BadUnits
from wholeline.forms import bent, is_message, message_width, read_form, read_letter, write_form, written

KINDS = ["begin", "probe", "parcel", "sign", "hello", "seen", "answer"]
BODY, REST = ("body",), ("rest",)
UNITS = (("long", "abc"), REST, REST, ("short", 3), BODY)
MESSAGES = [
    ("begin",), ("probe", 1), ("probe", 100), ("parcel", 0, False, ()), ("parcel", 7, True, (BODY,) * 60),
    ("parcel", 3, False, UNITS), ("parcel", 1, True, (("short", 0), ("long", "z"))), ("sign",), ("hello", 0), ("hello", 60),
    ("seen", 1, 0), ("seen", 100, 60), ("answer", 0, 0), ("answer", 7, 60),
]


def plain_bytes(message):
    """The bytes by the words of [44]."""
    middle = bytes([KINDS.index(message[0])])
    for part in message[1:]:
        if isinstance(part, tuple):
            middle += bytes([len(part)])
            for unit in part:
                if unit[0] == "short":
                    middle += bytes([1, unit[1]])
                elif unit[0] == "long":
                    middle += bytes([2, len(unit[1])]) + unit[1].encode()
                else:
                    middle += b"\x00" if unit == BODY else b"\x03"
        elif message[0] in ("probe", "seen") and part is message[1]:
            middle += part.to_bytes(2, "big")
        else:
            middle += bytes([int(part)])
    told = len(middle).to_bytes(2, "big") + middle
    second = sum(place * byte for place, byte in enumerate(told, start=1)) % 257
    return told + (sum(told) % 257).to_bytes(2, "big") + second.to_bytes(2, "big")


def random_message(roll):
    kind = roll.choice(KINDS)
    width, told, number = roll.randrange(1, 101), roll.randrange(61), roll.randrange(8)
    units = tuple(random_unit(roll) for _ in range(roll.randrange(20)))
    return {
        "begin": ("begin",), "probe": ("probe", width), "parcel": ("parcel", number, roll.random() < 0.5, units),
        "sign": ("sign",), "hello": ("hello", told), "seen": ("seen", width, told), "answer": ("answer", number, told),
    }[kind]


def random_unit(roll):
    return roll.choice([BODY, REST, ("short", roll.randrange(4)), ("long", "abcdefgh"[:roll.randrange(1, 9)])])


class MessageTest(Case):
    def test_each_kind(self):
        for message in MESSAGES:
            self.assertIs(is_message(message), True)
            self.assertIs(is_message(value=list(message)), False)
            self.assertIs(is_message(message + (0,)), False)
            self.assertIs(is_message(message[:-1]), False)

    def test_least_and_greatest_values(self):
        for message, places in (
            (("probe", 5), {1: (1, 100)}), (("hello", 5), {1: (0, 60)}), (("seen", 5, 5), {1: (1, 100), 2: (0, 60)}),
            (("answer", 5, 5), {1: (0, 7), 2: (0, 60)}), (("parcel", 5, True, ()), {1: (0, 7)}),
        ):
            for place, (low, high) in places.items():
                for value in [low - 1, low, high, high + 1, 10 ** 15, *NO_INTEGERS, Same()]:
                    told = message[:place] + (value,) + message[place + 1:]
                    self.assertIs(is_message(told), value in (low, high) if type(value) is int else False)

    def test_truths_and_units(self):
        for value in [0, 1, None, "True", (), Prickly(), Same()]:
            self.assertIs(is_message(("parcel", 0, value, ())), False)
        for value in NO_INTEGERS + [0, list(UNITS), (None,), ("body",), (("body", 0),), (["body"],), (("rest", 1),), (("short",),),
                                    (("short", 4),), (("short", -1),), (("short", True),), (("long", ""),), (("long", "A"),),
                                    (("long", "abcdefghi"),), (("long", None),), ((None,),), ((Prickly(),),), (Prickly(),),
                                    (("none",),), (Same(),), ((Same(),),)]:
            if not (isinstance(value, tuple) and not value):
                self.assertIs(is_message(("parcel", 0, True, value)), False)

    def test_sixty_units(self):
        for unit in (BODY, REST, ("short", 0), ("long", "a")):
            self.assertIs(is_message(("parcel", 0, True, (unit,) * 60)), True)
            self.assertIs(is_message(("parcel", 0, True, (unit,) * 61)), False)

    def test_a_middle_of_250_bytes(self):
        # 4 bytes ahead of the units, and 10 for each of these; six more make 250.
        units = (("long", "abcdefgh"),) * 24
        for more, fits in ((6, True), (7, False)):
            message = ("parcel", 0, True, units + (BODY,) * more)
            self.assertIs(is_message(message), fits)
            if fits:
                self.same(len(write_form(message)), 256)
                self.same(read_form(write_form(message)), message)
            else:
                self.raises(BadMessage(message), write_form, message)
                self.raises(BadMessage(message), message_width, message, 1)
                self.raises(BadBytes(plain_bytes(message)), read_form, plain_bytes(message))
        self.assertIs(is_message(("parcel", 0, True, (("long", "abcdefgh"),) * 25)), False)

    def test_no_messages(self):
        for value in NO_INTEGERS + [0, ("none",), ("Begin",), (None,), (0,), (b"begin",), (Prickly(),), (Same(),), "begin",
                                    ["begin"], ("parcel", 0, True), ("begin", None)]:
            self.assertIs(is_message(value), False)
            self.raises(BadMessage(value), write_form, value)
            self.raises(BadMessage(value), message_width, value, None)


class BytesTest(Case):
    def test_some_bytes(self):
        self.same(write_form(("begin",)), bytes([0, 1, 0, 0, 1, 0, 2]))
        self.same(write_form(message=("probe", 100)), bytes([0, 3, 1, 0, 100, 0, 104, 0, 509 - 257]))
        self.same(write_form(("parcel", 7, True, UNITS))[2:-4], bytes([2, 7, 1, 5, 2, 3, 97, 98, 99, 3, 3, 1, 3, 0]))

    def test_by_the_words(self):
        roll = dice(501)
        for message in MESSAGES + [random_message(roll) for _ in range(400)]:
            data = write_form(message)
            self.same(data, plain_bytes(message))
            self.same(read_form(data=data), message)

    def test_sums_of_256(self):
        # A sum of 256 takes both of its bytes.
        roll = dice(502)
        tops = set()
        while len(tops) < 2:
            data = write_form(random_message(roll))
            tops |= {place for place in (-4, -2) if data[place] == 1}
            self.same(write_form(read_form(data)), data)

    def test_each_byte_replaced(self):
        roll = dice(503)
        for message in MESSAGES + [random_message(roll) for _ in range(10)]:
            data = write_form(message)
            for place in range(len(data)):
                for byte in range(256) if len(data) < 12 else roll.sample(range(256), 12):
                    if byte != data[place]:
                        self.assertIsNone(self.read(data[:place] + bytes([byte]) + data[place + 1:]))

    def test_each_two_bytes_replaced(self):
        roll = dice(504)
        for message in MESSAGES + [random_message(roll) for _ in range(5)]:
            data = write_form(message)
            pairs = list(combinations(range(len(data)), 2))
            for one, other in pairs if len(pairs) < 200 else roll.sample(pairs, 200):
                for step in [1, -1, 2, 97, roll.randrange(1, 256)]:
                    # Changes that leave the first sum as it is, and others.
                    for back in (-step, step, roll.randrange(1, 256)):
                        told = list(data)
                        told[one] = (told[one] + step) % 256
                        told[other] = (told[other] + back) % 256
                        if told != list(data):
                            self.assertIsNone(self.read(bytes(told)))

    def test_left_out_and_put_behind(self):
        roll = dice(505)
        for message in MESSAGES + [random_message(roll) for _ in range(20)]:
            data = write_form(message)
            for many in range(len(data)):
                self.assertIsNone(self.read(data[:many]))
            for more in (b"\x00", b"\x01", b"\x00\x00", data, data[-4:], bytes([roll.randrange(256)])):
                self.assertIsNone(self.read(data + more))

    def test_bytes_that_no_message_has(self):
        def framed(middle):
            told = [0, len(middle), *middle]
            second = sum(place * byte for place, byte in enumerate(told, start=1)) % 257
            return bytes(told + [sum(told) % 257 // 256, sum(told) % 257 % 256, second // 256, second % 256])

        self.same(read_form(framed([0])), ("begin",))
        self.same(read_form(framed([2, 1, 0, 1, 0])), ("parcel", 1, False, (BODY,)))
        for middle in ([], [7], [255], [0, 0], [1, 0], [1, 0, 0], [1, 0, 101], [1, 1, 0], [1, 1, 50], [1, 0, 5, 0], [2, 1, 0],
                       [2, 8, 0, 0], [2, 1, 2, 0], [2, 1, 0, 1], [2, 1, 0, 0, 0], [2, 1, 0, 2, 0], [2, 1, 0, 1, 4], [2, 1, 0, 1, 1],
                       [2, 1, 0, 1, 1, 4], [2, 1, 0, 1, 2], [2, 1, 0, 1, 2, 0], [2, 1, 0, 1, 2, 1], [2, 1, 0, 1, 2, 2, 97],
                       [2, 1, 0, 1, 2, 1, 65], [2, 1, 0, 1, 2, 1, 123], [2, 1, 0, 1, 2, 9, *[97] * 9], [2, 1, 0, 61, *[0] * 61],
                       [3, 0], [4], [4, 61], [5, 0, 5], [5, 0, 5, 61], [6, 8, 0], [6, 1, 61], [6, 1], [6, 1, 1, 1], [2, 1, 1, 1, 2, 1, 200]):
            self.assertIsNone(self.read(framed(middle)), middle)

    def test_sums_that_are_too_great(self):
        data = write_form(("begin",))
        for first, second in ((1, 2 + 257), (1 + 257, 2), (1 + 257, 2 + 257)):
            self.assertIsNone(self.read(data[:3] + first.to_bytes(2, "big") + second.to_bytes(2, "big")))

    def read(self, data):
        try:
            return read_form(data)
        except BadBytes as bad:
            self.assertEqual(bad.value, data)
            return None

    def test_values_that_are_no_bytes(self):
        for value in [told for told in NO_INTEGERS if not isinstance(told, bytes)] + [0, b"", b"a", bytearray(write_form(("begin",))), Same(),
                                                                       list(write_form(("begin",)))]:
            self.raises(BadBytes(value), read_form, value)


class WidthTest(Case):
    def test_widths(self):
        self.same([message_width(message, 3) for message in MESSAGES], [0, 1, 100, 3, 63, 8, 5, 0, 0, 0, 0, 0, 0, 0])
        self.same([message_width(("parcel", 0, True, (BODY,) * 60), head) for head in (1, 8)], [61, 68])
        self.same(message_width(message=("probe", 7), head=8), 7)

    def test_heads(self):
        for value in NO_INTEGERS + [0, 9, -1, Same()]:
            self.raises(BadPart("head"), message_width, ("begin",), value)


class WrittenTest(Case):
    def test_a_letter(self):
        units, book = written((("ann", "bob", "ann"), 2), Book(2, ["bob"]), 3)
        self.same(units, (("long", "ann"), REST, REST, ("short", 0), ("short", 1), BODY, BODY))
        self.equal_ones(book, Book(2, ["bob", "ann", "bob", "ann"]))
        self.same(written(letter=((), 0), book=Book(0), long_cost=9)[0], ())

    def test_costs(self):
        for cost in (2, 9):
            self.same(written((("a",), 1), Book(0), cost)[0], (("long", "a"),) + (REST,) * (cost - 1) + (BODY,))
        letter = (("abcdefgh",) * 4, 60)
        self.same(len(written(letter, Book(0), 9)[0]), 96)
        self.same(len(written(letter, Book(1), 9)[0]), 72)

    def test_words_of_the_book(self):
        roll = dice(506)
        book = {places: Book(places) for places in range(5)}
        for _ in range(200):
            places = roll.randrange(5)
            letter = random_letter(roll, 5, 4)
            cost = roll.randrange(2, 10)
            words, behind = write_heads(book[places], letter[0])
            want = []
            for word in words:
                want += [word] + [REST] * (cost - 1) * (word[0] == "long")
            units, told = written(letter, book[places], cost)
            self.same(units, tuple(want) + (BODY,) * letter[1])
            self.equal_ones(told, behind)
            # What was written is read.
            read, other = read_letter(units, book[places])
            self.same(read, letter)
            self.equal_ones(other, behind)
            book[places] = told

    def test_errors(self):
        for value in NO_INTEGERS + [((), 61), ([], 0), (("A",), 0), (("a",) * 5, 0), Same()]:
            self.raises(BadLetter(None), written, value, None, None)
        for value in NO_INTEGERS + [2, Book, Same()]:
            self.raises(BadPart("book"), written, ((), 0), value, None)
        for value in NO_INTEGERS + [1, 10, 0, Same()]:
            self.raises(BadPart("long_cost"), written, ((), 0), Book(1), value)


class ReadLetterTest(Case):
    def test_rest_is_passed_over(self):
        for units in ((("long", "ann"), BODY), (REST, ("long", "ann"), REST, BODY, REST), (BODY, ("long", "ann"))):
            read, book = read_letter(units=units, book=Book(1))
            self.same(read, (("ann",), 1))
            self.equal_ones(book, Book(1, ["ann"]))

    def test_places_that_are_blank_or_not_there(self):
        book = Book(2, ["ann"])
        for place, head in ((0, "ann"), (1, None), (2, None), (3, None)):
            read, behind = read_letter((("short", place), BODY), book)
            self.same(read, ((head,), 1))
            self.equal_ones(behind, book)
        read, behind = read_letter((("short", 1), ("long", "bob"), ("short", 1), ("short", 0)), book)
        self.same(read, ((None, "bob", "bob", "ann"), 0))
        self.equal_ones(behind, Book(2, ["ann", "bob", "ann"]))
        self.same(read_letter((("short", 0),), Book(0))[0], ((None,), 0))

    def test_no_heads_and_no_body(self):
        self.same(read_letter((), Book(4))[0], ((), 0))
        self.same(read_letter((REST,) * 70, Book(4))[0], ((), 0))
        self.same(read_letter((BODY,) * 96, Book(4))[0], ((), 96))

    def test_errors(self):
        for value in NO_INTEGERS + [list(UNITS), (BODY, None), ("body",), (("short", 4),), (("long", "A"),), (("begin",),), Same(),
                                    (Same(),), ((Prickly(),),)]:
            if not (isinstance(value, tuple) and not value):
                self.raises(BadUnits(value), read_letter, value, None)
        for value in NO_INTEGERS + [Book, Same()]:
            self.raises(BadPart("book"), read_letter, (), value)


class BentTest(Case):
    def test_places(self):
        self.same(bent(b"abc", [(0, 122)]), b"zbc")
        self.same(bent(data=b"abc", changes=((2, 0), (0, 255))), b"\xffb\x00")
        self.same([bent(b"abc", []), bent(b"", ())], [b"abc", b""])
        # The same byte as stands there, and twice at one place.
        self.same([bent(b"abc", [(0, 97)]), bent(b"abc", [(0, 98), (0, 99)])], [b"abc", b"cbc"])
        data, changes = b"abc", [(1, 120)]
        bent(data, changes)
        self.same((data, changes), (b"abc", [(1, 120)]))

    def test_errors(self):
        for value in [told for told in NO_INTEGERS if not isinstance(told, bytes)] + [bytearray(b"a"), 0, Same(), memoryview(b"a")]:
            self.raises(BadBytes(value), bent, value, None)
        for value in NO_INTEGERS + [(0,), (0, 0, 0), [0, 0], (3, 0), (-1, 0), (0, 256), (0, -1), (True, 0), (0, True), (None, 0),
                                    (0, None), (Prickly(), 0), (0, Same()), (0, b"a"), 0]:
            self.raises(BadBend(0), bent, b"abc", [value])
            self.raises(BadBend(2), bent, b"abc", ((0, 0), (2, 255), value, None))
        self.raises(BadBend(0), bent, b"", [(0, 0)])
        for value in NO_LISTS:
            self.raises(BadBend(None), bent, b"abc", value)
