"""[45]: the live sender."""

from tests.help import NO_INTEGERS, Case, Prickly, Same, dice
from tests.plainlines import LINE, line_with, plain_pieces, random_line
from wholeline.bars import first_bar
from wholeline.books import Book
from wholeline.cutting import told_cut
from wholeline.errors import BadMessage, BadMoment, BadPart, Stuck
from wholeline.forms import written
from wholeline.letters import Mail
from wholeline.lines import load_of
from wholeline.senders import Sender
from wholeline.steps import Room, Steps
from wholeline.ways import Way

BODY, REST, SIGN = ("body",), ("rest",), ("sign",)
# The parcels of LINE with the width 5; its letters have 9, 5 and 4 units, and a cap of 3.
PARCELS = [
    ("parcel", 0, False, (("long", "ann"), REST, REST)), ("parcel", 1, False, (("long", "bob"), REST, REST)),
    ("parcel", 0, True, (BODY,) * 3), ("parcel", 1, False, (BODY,) * 3), ("parcel", 0, True, (BODY,) * 2),
    ("parcel", 1, False, (("long", "ann"), REST, REST)), ("parcel", 0, True, (BODY,)),
]


def answer(parcel, told=4):
    return ("answer", parcel[1], told)


def all_answered(sender, moment):
    """All that is sent, if each parcel is answered two moments later, or when it would be sent again."""
    sent = []
    while sender.wake() is not None:
        moment = sender.wake()
        message, = sender.due(moment)
        sent.append((moment, message))
        if message[0] == "parcel":
            sender.come(min(moment + 2, sender.wake()), ("answer", message[1], 0))
    return sent


class SenderTest(Case):
    def test_the_line(self):
        sender = Sender(line=LINE, way=0, width=5, start=2)
        self.same([sender.wake(), sender.open_parcel(), sender.answered()], [2, None, 0])
        sent = all_answered(sender, 2)
        moments = [2, 4, 6, 8, 10, 17, 22, 27, 32, 34]
        self.same(sent, list(zip(moments, PARCELS[:5] + [SIGN] * 3 + PARCELS[5:])))
        self.same([sender.wake(), sender.open_parcel(), sender.answered()], [None, None, 3])
        self.equal_ones(sender.book_now(), Book(1, ["ann", "bob", "ann"]))

    def test_a_parcel_is_sent_again_just_as_it_was(self):
        sender = Sender(LINE, 1, 5, 0)
        self.same([sender.due(0), sender.wake(), sender.open_parcel()], [[PARCELS[0]], 12, PARCELS[0]])
        self.same([sender.due(12), sender.wake()], [[PARCELS[0]], 24])
        sender.come(20, answer(PARCELS[0]))
        self.same([sender.open_parcel(), sender.wake()], [None, 20])
        self.same([sender.due(20), sender.wake(), sender.due(32)], [[PARCELS[1]], 32, [PARCELS[1]]])

    def test_an_answer_at_the_moment_of_sending(self):
        sender = Sender(LINE, 0, 5, 0)
        sender.due(0)
        sender.come(12, answer(PARCELS[0]))
        # The new parcel goes instead of the old one.
        self.same(sender.due(12), [PARCELS[1]])

    def test_when_the_book_goes_on(self):
        sender = Sender(LINE, 0, 5, 0)
        self.equal_ones(sender.book_now(), Book(1))
        sender.due(0)
        self.equal_ones(sender.book_now(), Book(1, ["ann", "bob"]))
        for parcel in PARCELS[:3]:
            sender.come(sender.wake() - 12, answer(parcel))
            self.assertIs(sender.open_parcel() is None, True)
            sender.due(sender.wake())
            self.equal_ones(sender.book_now(), Book(1, ["ann", "bob"]))
        self.same(sender.answered(), 1)

    def test_what_changes_nothing(self):
        sender = Sender(LINE, 0, 5, 0)
        others = [("begin",), ("probe", 5), ("sign",), ("hello", 4), ("seen", 5, 4), PARCELS[0], PARCELS[1], ("answer", 1, 4),
                  ("answer", 2, 4), ("answer", 7, 60)]
        for message in others + [answer(PARCELS[0])]:
            # Nothing is open ahead of the first sending.
            sender.come(0, message)
            self.same([sender.wake(), sender.open_parcel(), sender.answered()], [0, None, 0])
        sender.due(0)
        for moment, message in enumerate(others, start=1):
            sender.come(moment, message)
            self.same([sender.wake(), sender.open_parcel(), sender.answered()], [12, PARCELS[0], 0])
        sender.come(11, answer(PARCELS[0]))
        # Twice, and late: the number is that of no open parcel.
        sender.come(11, answer(PARCELS[0]))
        self.same([sender.wake(), sender.open_parcel()], [11, None])
        sender.due(11)
        sender.come(12, answer(PARCELS[0]))
        self.same(sender.open_parcel(), PARCELS[1])
        sender.come(13, answer(PARCELS[1]))
        sender.due(13)
        # An old answer of the same number closes the third parcel, as it does on a line.
        sender.come(14, answer(PARCELS[0]))
        self.same([sender.open_parcel(), sender.wake(), sender.answered()], [None, 14, 1])

    def test_told_rooms_change_nothing(self):
        one, other = Sender(LINE, 0, 5, 0), Sender(LINE, 0, 5, 0)
        for parcel in PARCELS:
            while one.wake() not in (None,) and one.open_parcel() is None:
                self.same(one.due(one.wake()), other.due(other.wake()))
            one.come(one.wake() - 12, answer(parcel, 0))
            other.come(other.wake() - 12, answer(parcel, 60))
        self.same([one.wake(), other.wake()], [None, None])

    def test_behind_the_last_answer(self):
        sender = Sender(LINE, 0, 5, 0)
        all_answered(sender, 0)
        for moment in (34, 40, 10 ** 6):
            sender.come(moment, answer(PARCELS[0]))
            self.same([sender.wake(), sender.open_parcel(), sender.answered()], [None, None, 3])
        self.raises(BadMoment(10 ** 6), sender.due, 10 ** 6)
        self.raises(BadMoment(10 ** 6 - 1), sender.come, 10 ** 6 - 1, ("sign",))

    def test_signs(self):
        for period, quiet, moments in ((5, 20, [5, 10, 15]), (5, 21, [5, 10, 15, 20]), (5, 5, []), (4, 5, [4]), (1, 3, [1, 2]),
                                       (200, 500, [200, 400]), (200, 1, [])):
            line = line_with(mail=Mail([[((), 0)], [((), 0)], [((), 0)]]), period=period, quiet=quiet)
            sender = Sender(line, 0, 5, 7)
            want = []
            for row in range(3):
                base = 7 + row * (2 + quiet)
                want.append((base, "parcel"))
                if row < 2:
                    want += [(base + 2 + moment, "sign") for moment in moments]
            self.same([(moment, message[0]) for moment, message in all_answered(sender, 7)], want)

    def test_nothing_comes_into_the_quiet(self):
        line = line_with(mail=Mail([[((), 0)], [((), 0)]]), period=5, quiet=20)
        sender = Sender(line, 0, 5, 0)
        sender.due(0)
        sender.come(3, ("answer", 0, 8))
        for moment, message in ((3, ("answer", 0, 8)), (8, ("answer", 1, 8)), (8, ("hello", 8))):
            sender.come(moment, message)
            self.same([sender.wake(), sender.open_parcel(), sender.answered()], [8, None, 1])
        self.same([sender.due(8), sender.wake()], [[SIGN], 13])

    def test_letters_of_length_0(self):
        line = line_with(mail=Mail([[((), 0), ((), 0)]]), head=5, widths=[5])
        sent = all_answered(Sender(line, 0, 5, 0), 0)
        self.same(sent, [(0, ("parcel", 0, True, ())), (2, ("parcel", 1, True, ()))])

    def test_against_the_parts(self):
        roll = dice(511)
        looked = 0
        while looked < 150:
            line = random_line(roll)
            width = roll.choice(line.widths)
            planned = [way for way, told in enumerate(line.ways) if told.begin is not None]
            if not planned or load_of(line, width) is None:
                continue
            looked += 1
            sent = [message for _, message in all_answered(Sender(line, planned[0], width, 3), 3) if message[0] == "parcel"]
            self.same(len(sent), sum(plain_pieces(line, width)))
            book, at = Book(line.places), 0
            for letter in line.mail.letters_told():
                units, book = written(letter, book, line.cost)
                first = 0
                for piece in told_cut(line.room, width - line.head, len(units)):
                    last = first + piece == len(units)
                    self.same(sent[at], ("parcel", at % line.numbers, last, units[first:first + piece]))
                    first += piece
                    at += 1


class ErrorsTest(Case):
    def test_of_the_class(self):
        for value in NO_INTEGERS + [Same()]:
            self.raises(BadPart("line"), Sender, value, None, None, None)
        line = LINE.changed(("begin", 1, None))
        for value in NO_INTEGERS + [-1, 1, 2, Same()]:
            self.raises(BadPart("way"), Sender, line, value, None, None)
        for value in NO_INTEGERS + [4, 6, 0, Same()]:
            self.raises(BadPart("width"), Sender, LINE, 0, value, None)
        for value in NO_INTEGERS + [-1, 10001, Same()]:
            self.raises(BadMoment(value), Sender, LINE, 0, 5, value)
        for value in (0, 10000):
            self.same(Sender(LINE, 0, 5, value).wake(), value)

    def test_stuck(self):
        line = line_with(mail=Mail([[((), 9), ((), 0)], [((), 10)]]), widths=[1, 2, 5, 50])
        # Less than the head units; as great; the third letter; with a wider one none.
        for width, letter in ((1, 0), (2, 0), (5, 2)):
            self.raises(Stuck(letter), Sender, line, 0, width, 0)
            self.raises(BadMoment(None), Sender, line, 0, width, None)
        self.same(Sender(line, 0, 50, 0).wake(), 0)
        empty = line.with_setting("mail", Mail([[((), 0), ((), 1)]]))
        self.raises(Stuck(0), Sender, empty, 0, 1, 0)
        self.raises(Stuck(1), Sender, empty, 0, 2, 0)

    def test_due(self):
        sender = Sender(LINE, 0, 5, 2)
        for value in NO_INTEGERS + [0, 1, 3, -2, Same()]:
            self.raises(BadMoment(value), sender.due, value)
        sender.due(2)
        self.raises(BadMoment(2), sender.due, 2)
        self.same(sender.wake(), 14)
        one = Sender(LINE, 0, 5, 1)
        self.raises(BadMoment(True), one.due, True)

    def test_come(self):
        sender = Sender(LINE, 0, 5, 2)
        for value in NO_INTEGERS + [1, 3, -1, Same()]:
            self.raises(BadMoment(value), sender.come, value, None)
        sender.come(2, ("hello", 4))
        sender.due(2)
        sender.come(moment=9, message=("hello", 4))
        for value in (8, 2, 15, 10 ** 9):
            self.raises(BadMoment(value), sender.come, value, answer(PARCELS[0]))
        sender.come(9, ("hello", 4))
        for value in NO_INTEGERS + [("answer", 8, 0), ("answer", 0), ["answer", 0, 0], Same(), Prickly(), 0]:
            self.raises(BadMessage(value), sender.come, 14, value)
        # What raised has changed nothing: the clock of the sender stands at 9.
        sender.come(9, ("hello", 4))
        sender.come(14, answer(PARCELS[0]))
        self.same(sender.wake(), 14)

    def test_a_due_counts_as_a_moment(self):
        sender = Sender(LINE, 0, 5, 2)
        sender.due(2)
        sender.due(14)
        self.raises(BadMoment(13), sender.come, 13, answer(PARCELS[0]))
        sender.come(14, answer(PARCELS[0]))
        self.same(sender.wake(), 14)

    def test_two_senders_have_nothing_in_common(self):
        one, other = Sender(LINE, 0, 5, 0), Sender(LINE, 0, 5, 0)
        told = one.due(0)
        told.append(None)
        self.same([other.wake(), other.open_parcel(), one.open_parcel()], [0, None, PARCELS[0]])
        self.assertIs(one == other, False)
        self.not_iterated(one)
        self.assertIsNone(first_bar(LINE))

    def test_rooms_that_are_told_in_steps(self):
        line = line_with(mail=Mail([[((), 10)]]), widths=[10], room=Room(10, Steps([4, 8])))
        self.same([len(message[3]) for _, message in all_answered(Sender(line, 0, 10, 0), 0)], [6, 4])

    def test_begins_do_not_matter(self):
        line = line_with(ways=[Way(900, 1, 2)], silent=0)
        self.same(Sender(line, 0, 5, 0).wake(), 0)
