"""[4], [10]: letters and mails."""

from tests.help import NO_INTEGERS, NO_LISTS, Case, Prickly
from wholeline.errors import BadIndex, BadLetter, BadPart, BadRow, TooMany
from wholeline.letters import Mail, is_letter

PLAIN = ((), 0)
ONE = (("x", "y", "x"), 7)
TWO = (("abcdefgh",), 60)


class IsLetterTest(Case):
    def test_letters(self):
        for value in (PLAIN, ONE, TWO, (("a",) * 4, 0), (("a", "zz"), 1)):
            self.assertIs(is_letter(value), True)

    def test_no_letters(self):
        wrong = [
            ([], 0), [(), 0], ((),), ((), 0, 0), (), (("a",) * 5, 0), (("",), 0), (("abcdefghi",), 0),
            (("A",), 0), (("a1",), 0), (("a b",), 0), ((1,), 0), ((b"a",), 0), ((None,), 0), (("a", ""), 0),
            ("ab", 0), ((), -1), ((), 61), (["a"], 1), {(): 0}, "ab", ((Prickly(),), 0), (Prickly(), 0),
        ]
        for value in wrong + NO_INTEGERS + NO_LISTS:
            self.assertIs(is_letter(value), False)
        for body in NO_INTEGERS:
            self.assertIs(is_letter(((), body)), False)

    def test_by_name(self):
        self.assertTrue(is_letter(value=ONE))


class MailTest(Case):
    def test_what_is_told(self):
        mail = Mail([[ONE, PLAIN], (TWO,)])
        self.same(mail.rows_told(), [[ONE, PLAIN], [TWO]])
        self.same(mail.letters_told(), [ONE, PLAIN, TWO])
        self.same(mail.heads_told(), ["x", "y", "x", "abcdefgh"])
        self.assertEqual(len(mail), 3)
        self.same([mail[index] for index in range(3)], [ONE, PLAIN, TWO])
        self.same(Mail(rows=((PLAIN,),)).rows_told(), [[PLAIN]])

    def test_limits(self):
        self.assertEqual(len(Mail([[PLAIN] * 6] * 3)), 18)
        self.raises(TooMany(6), Mail, [[PLAIN] * 7])
        self.raises(TooMany(3), Mail, [[PLAIN]] * 4)

    def test_no_rows(self):
        for value in NO_LISTS + [[], ()]:
            self.raises(BadPart("rows"), Mail, value)

    def test_wrong_rows(self):
        for value in NO_LISTS + [[], ()]:
            self.raises(BadRow(0), Mail, [value])
            self.raises(BadRow(1), Mail, [[PLAIN], value, [1]])
            self.raises(BadRow(3), Mail, [[PLAIN], [PLAIN], [PLAIN], value])

    def test_wrong_letters(self):
        for value in NO_INTEGERS + [[(), 0], ((), True)]:
            self.raises(BadLetter((0, 0)), Mail, [[value]])
            self.raises(BadLetter((1, 2)), Mail, [[ONE], [ONE, TWO, value, value], []])

    def test_order_of_errors(self):
        self.raises(BadLetter((0, 6)), Mail, [[PLAIN] * 6 + [None]])
        self.raises(TooMany(6), Mail, [[PLAIN] * 7, [], None])
        self.raises(BadRow(0), Mail, [[], [PLAIN] * 7])
        self.raises(BadLetter((3, 0)), Mail, [[PLAIN]] * 3 + [[None]])
        self.raises(TooMany(6), Mail, [[PLAIN]] * 3 + [[PLAIN] * 7])

    def test_index(self):
        mail = Mail([[ONE], [TWO]])
        for index in NO_INTEGERS + [-1, 2, slice(0, 1)]:
            self.raises(BadIndex(index), mail.__getitem__, index)
        with self.assertRaises(BadIndex):
            mail[True]

    def test_not_iterated(self):
        self.not_iterated(Mail([[ONE]]))

    def test_equal(self):
        self.equal_ones(Mail([[ONE], [TWO]]), Mail(((ONE,), (TWO,))))
        self.unlike_ones(Mail([[ONE], [TWO]]), Mail([[ONE, TWO]]))
        self.unlike_ones(Mail([[ONE]]), Mail([[TWO]]))
        self.unlike_others(Mail([[ONE]]))

    def test_with_letter(self):
        mail = Mail([[ONE], [TWO]])
        self.same(mail.with_letter(0, PLAIN).rows_told(), [[ONE, PLAIN], [TWO]])
        self.same(mail.with_letter(row=1, letter=PLAIN).rows_told(), [[ONE], [TWO, PLAIN]])
        self.same(mail.rows_told(), [[ONE], [TWO]])
        for row in NO_INTEGERS + [-1, 2]:
            self.raises(BadIndex(row), mail.with_letter, row, None)
        for letter in NO_INTEGERS + [[(), 0]]:
            self.raises(BadLetter(None), mail.with_letter, 1, letter)
        full = Mail([[ONE] * 6])
        self.raises(BadLetter(None), full.with_letter, 0, 1)
        self.raises(TooMany(6), full.with_letter, 0, ONE)

    def test_with_row(self):
        mail = Mail([[ONE], [TWO]])
        self.same(mail.with_row([PLAIN, ONE]).rows_told(), [[ONE], [TWO], [PLAIN, ONE]])
        self.same(mail.with_row(letters=(PLAIN,)).rows_told(), [[ONE], [TWO], [PLAIN]])
        self.same(mail.rows_told(), [[ONE], [TWO]])
        for value in NO_LISTS + [[], ()]:
            self.raises(BadRow(2), mail.with_row, value)
        self.raises(BadLetter((2, 1)), mail.with_row, [ONE, None])
        self.raises(TooMany(6), mail.with_row, [ONE] * 7)
        full = Mail([[ONE]] * 3)
        self.raises(BadRow(3), full.with_row, [])
        self.raises(TooMany(3), full.with_row, [ONE])

    def test_lists_may_be_changed(self):
        rows = [[ONE], [TWO]]
        mail = Mail(rows)
        rows[0].append(TWO)
        rows.append([ONE])
        mail.rows_told()[0].append(PLAIN)
        mail.rows_told().clear()
        mail.letters_told().clear()
        mail.heads_told().append("q")
        self.same(mail.rows_told(), [[ONE], [TWO]])
        self.same(mail.letters_told(), [ONE, TWO])
        self.same(mail.heads_told(), ["x", "y", "x", "abcdefgh"])
        letters = [PLAIN]
        more = mail.with_row(letters)
        letters.append(ONE)
        self.same(more.rows_told()[2], [PLAIN])
