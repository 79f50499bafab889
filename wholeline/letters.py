"""Letters, and the mail of a line."""

from wholeline.errors import BadHead, BadIndex, BadLetter, BadPart, BadRow, TooMany
from wholeline.kinds import is_between, is_index, is_list, is_name, is_tuple_of

MOST_HEADS = 4
MOST_BODY = 60
MOST_LETTERS = 6
MOST_ROWS = 3


def is_letter(value):
    """Whether any value is a letter: a tuple (heads, body)."""
    if not is_tuple_of(value, 2):
        return False
    heads, body = value
    if not isinstance(heads, tuple) or len(heads) > MOST_HEADS:
        return False
    return all([is_name(head) for head in heads]) and is_between(body, 0, MOST_BODY)


def check_heads(heads):
    """Raise BadHead if heads are no list of names."""
    if not is_list(heads):
        raise BadHead(None)
    for index, head in enumerate(heads):
        if not is_name(head):
            raise BadHead(index)


def check_row(at, row):
    """Raise what is wrong with the row of a mail at this index."""
    if not is_list(row) or len(row) == 0:
        raise BadRow(at)
    for index, letter in enumerate(row):
        if not is_letter(letter):
            raise BadLetter((at, index))
    if len(row) > MOST_LETTERS:
        raise TooMany(MOST_LETTERS)


class Mail:
    """The letters of a line, row by row."""

    def __init__(self, rows):
        if not is_list(rows) or len(rows) == 0:
            raise BadPart("rows")
        for at, row in enumerate(rows):
            check_row(at, row)
        if len(rows) > MOST_ROWS:
            raise TooMany(MOST_ROWS)
        self.rows = tuple([tuple(row) for row in rows])
        self.letters = tuple([letter for row in rows for letter in row])

    def rows_told(self):
        """The list of the lists of letters."""
        return [list(row) for row in self.rows]

    def letters_told(self):
        """The list of all letters."""
        return list(self.letters)

    def heads_told(self):
        """The list of all heads."""
        return [head for letter in self.letters for head in letter[0]]

    def with_letter(self, row, letter):
        """The Mail with a letter more at the end of a row."""
        if not is_index(row, len(self.rows)):
            raise BadIndex(row)
        if not is_letter(letter):
            raise BadLetter(None)
        rows = self.rows_told()
        rows[row].append(letter)
        return Mail(rows)

    def with_row(self, letters):
        """The Mail with a row more."""
        return Mail([*self.rows, letters])

    def __len__(self):
        return len(self.letters)

    def __getitem__(self, at):
        if not is_index(at, len(self.letters)):
            raise BadIndex(at)
        return self.letters[at]

    def __iter__(self):
        raise TypeError("a Mail cannot be iterated")

    def __eq__(self, other):
        return isinstance(other, Mail) and self.rows == other.rows
