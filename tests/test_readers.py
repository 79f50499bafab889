"""[46]: the live reader."""

from tests.help import NO_INTEGERS, Case, Prickly, Same, dice
from tests.plainlines import LINE, line_with, random_line
from wholeline.books import Book
from wholeline.errors import BadBytes, BadMoment, BadPart
from wholeline.forms import bent, read_letter, write_form
from wholeline.readers import Reader
from wholeline.steps import Room, Steps
from wholeline.letters import Mail

BODY, REST = ("body",), ("rest",)


def parcel(number, units, last=False):
    return write_form(("parcel", number, last, tuple(units)))


class Plain:
    """A reader by the words of [46] and [8]."""

    def __init__(self, line):
        self.line, self.number, self.held, self.told, self.thrown = line, 0, (), [], 0
        self.book = Book(line.places)

    def come(self, moment, message):
        if message is None or message[0] in ("hello", "seen", "answer"):
            self.thrown += 1
            return []
        if message[0] == "sign":
            return []
        if message[0] == "begin":
            return [("hello", self.room())]
        if message[0] == "probe":
            return [("seen", message[1], self.room())]
        _, number, last, units = message
        if number != self.number:
            self.thrown += 1
        elif len(self.held) + len(units) > self.line.room.size:
            self.thrown += 1
            return []
        else:
            self.held += units
            self.number = (number + 1) % self.line.numbers
            if last:
                letter, self.book = read_letter(self.held, self.book)
                self.told.append((moment, letter))
                self.held = ()
        return [("answer", number, self.room())]

    def room(self):
        free = self.line.room.size - len(self.held)
        return max([bound for bound in self.line.room.steps.bounds if bound <= free], default=0)


class ReaderTest(Case):
    def test_a_letter(self):
        reader = Reader(line=LINE)
        self.same([reader.waits(), reader.held_units(), reader.free_room(), reader.told_letters(), reader.thrown()],
                  [0, (), 10, [], 0])
        self.same(reader.come(moment=3, data=parcel(0, [("long", "ann"), REST, REST])), [("answer", 0, 4)])
        self.same([reader.waits(), reader.held_units(), reader.free_room()], [1, (("long", "ann"), REST, REST), 7])
        self.equal_ones(reader.book_now(), Book(1))
        self.same(reader.come(5, parcel(1, [BODY] * 5)), [("answer", 1, 0)])
        # Behind the last piece all room is free.
        self.same(reader.come(5, parcel(0, [BODY], True)), [("answer", 0, 8)])
        self.same([reader.waits(), reader.held_units(), reader.free_room()], [1, (), 10])
        self.same(reader.told_letters(), [(5, (("ann",), 6))])
        self.equal_ones(reader.book_now(), Book(1, ["ann"]))
        self.same(reader.thrown(), 0)

    def test_hello_and_seen(self):
        reader = Reader(LINE)
        self.same(reader.come(0, write_form(("begin",))), [("hello", 8)])
        self.same(reader.come(0, write_form(("probe", 77))), [("seen", 77, 8)])
        reader.come(1, parcel(0, [BODY] * 3))
        self.same([reader.come(1, write_form(("begin",))), reader.come(1, write_form(("probe", 1)))], [[("hello", 4)], [("seen", 1, 4)]])
        self.same([reader.come(2, write_form(("sign",))), reader.thrown(), reader.waits()], [[], 0, 1])

    def test_as_great_as_the_free_room(self):
        reader = Reader(LINE)
        reader.come(0, parcel(0, [BODY] * 6))
        self.same([reader.come(1, parcel(1, [BODY] * 5)), reader.come(1, parcel(1, [BODY] * 5, True))], [[], []])
        self.same([reader.thrown(), reader.waits(), reader.free_room()], [2, 1, 4])
        self.same(reader.come(2, parcel(1, [BODY] * 4)), [("answer", 1, 0)])
        self.same([reader.free_room(), reader.come(2, parcel(0, [BODY])), reader.come(2, parcel(0, []))], [0, [], [("answer", 0, 0)]])
        self.same(reader.come(3, parcel(1, [], True)), [("answer", 1, 8)])
        self.same(reader.told_letters(), [(3, ((), 10))])

    def test_other_numbers(self):
        reader = Reader(LINE)
        # They are answered, with the room as it is, however great their pieces are.
        for number in (1, 2, 7):
            self.same(reader.come(0, parcel(number, [BODY] * 60, True)), [("answer", number, 8)])
        self.same([reader.thrown(), reader.waits(), reader.told_letters()], [3, 0, []])
        reader.come(1, parcel(0, [BODY]))
        self.same(reader.come(1, parcel(0, [BODY])), [("answer", 0, 8)])
        self.same([reader.thrown(), reader.held_units()], [4, (BODY,)])

    def test_bytes_of_no_message(self):
        reader = Reader(LINE)
        data = parcel(0, [BODY])
        for value in (b"", b"\x00", data[:-1], data + b"\x00", bent(data, [(3, 9)]), bent(data, [(0, 1), (6, 7)]),
                      write_form(("hello", 3)), write_form(("seen", 3, 3)), write_form(("answer", 0, 0))):
            self.same(reader.come(4, value), [])
        self.same([reader.thrown(), reader.waits(), reader.held_units()], [9, 0, ()])

    def test_letters_of_no_heads_and_other_units(self):
        reader = Reader(LINE)
        reader.come(0, parcel(0, [], True))
        reader.come(1, parcel(1, [REST, ("short", 0), ("short", 3), ("long", "bob")], True))
        reader.come(2, parcel(0, [("short", 0), BODY], True))
        self.same(reader.told_letters(), [(0, ((), 0)), (1, ((None, None, "bob"), 0)), (2, (("bob",), 1))])

    def test_numbers_go_round(self):
        for numbers in (2, 5, 8):
            reader = Reader(line_with(numbers=numbers))
            for moment in range(20):
                self.same(reader.waits(), moment % numbers)
                reader.come(moment, parcel(moment % numbers, [], True))
            self.same([len(reader.told_letters()), reader.thrown()], [20, 0])

    def test_against_the_words(self):
        roll = dice(521)
        for _ in range(120):
            line = random_line(roll, room=Room(roll.randrange(1, 9), Steps(sorted(roll.sample(range(1, 9), 2)))))
            reader, plain, moment = Reader(line), Plain(line), 0
            for _ in range(40):
                moment += roll.choice([0, 1, 7])
                units = tuple(roll.choice([BODY, REST, ("short", roll.randrange(4)), ("long", roll.choice("abc"))])
                              for _ in range(roll.randrange(5)))
                number = roll.choice([plain.number, plain.number, plain.number, roll.randrange(8)])
                message = roll.choice([("parcel", number, roll.random() < 0.4, units)] * 6 + [("begin",), ("probe", 3), ("sign",),
                                                                                          ("answer", 0, 0), None])
                data = b"\x00\x01" if message is None else write_form(message)
                self.same(reader.come(moment, data), plain.come(moment, message))
                self.same((reader.waits(), reader.held_units(), reader.told_letters(), reader.thrown()),
                          (plain.number, plain.held, plain.told, plain.thrown))
                self.same(reader.free_room(), line.room.size - len(plain.held))
                self.equal_ones(reader.book_now(), plain.book)


class ErrorsTest(Case):
    def test_of_the_class(self):
        for value in NO_INTEGERS + [Same(), Mail]:
            self.raises(BadPart("line"), Reader, value)

    def test_come(self):
        reader = Reader(LINE)
        for value in NO_INTEGERS + [-1, Same()]:
            self.raises(BadMoment(value), reader.come, value, None)
        reader.come(5, b"")
        for value in (0, 4, -5):
            self.raises(BadMoment(value), reader.come, value, None)
        for value in [told for told in NO_INTEGERS if not isinstance(told, bytes)] + [0, Same(), Prickly(), bytearray(b"a"), [0, 1]]:
            self.raises(BadBytes(value), reader.come, 7, value)
        # What raised has changed nothing.
        reader.come(5, b"")
        self.same(reader.thrown(), 2)
        reader.come(10 ** 12, b"")

    def test_new_lists_and_nothing_in_common(self):
        one, other = Reader(LINE), Reader(LINE)
        one.come(0, parcel(0, [BODY], True)).clear()
        one.told_letters().clear()
        self.same([len(one.told_letters()), other.told_letters(), other.waits()], [1, [], 0])
        self.assertIs(one == other, False)
        self.not_iterated(one)
