"""Forms: messages, their bytes, and the units of letters."""

from wholeline.books import check_book, is_word, read_head
from wholeline.errors import BadBend, BadBytes, BadLetter, BadMessage, BadPart, BadUnits
from wholeline.kinds import is_between, is_index, is_list, is_told_by, is_tuple_of
from wholeline.letters import is_letter
from wholeline.lines import LEAST_COST, MOST_COST, MOST_HEAD
from wholeline.steps import MOST_UNITS
from wholeline.turns import MOST_NUMBERS
from wholeline.widths import MOST_WIDTH

# The words of the messages, each at the number of its kind, and those that the sender sends.
WORDS = ("begin", "probe", "parcel", "sign", "hello", "seen", "answer")
FROM_SENDER = ("begin", "probe", "parcel", "sign")
BODY = ("body",)
REST = ("rest",)
MOST_MIDDLE = 250
# How many bytes stand ahead of the middle, and how many behind it.
AHEAD = 2
BEHIND = 4
MODULUS = 257
MOST_BYTE = 255


def is_unit(value):
    """Whether any value is a unit."""
    return is_told_by(value, "body", 1) or is_told_by(value, "rest", 1) or is_word(value)


def are_units(value):
    """Whether any value is a tuple of units."""
    return isinstance(value, tuple) and all([is_unit(unit) for unit in value])


def has_fit_parts(value):
    """Whether any value is a message, however long its middle is."""
    if is_told_by(value, "begin", 1) or is_told_by(value, "sign", 1):
        return True
    if is_told_by(value, "probe", 2):
        return is_between(value[1], 1, MOST_WIDTH)
    if is_told_by(value, "parcel", 4):
        if not is_index(value[1], MOST_NUMBERS) or not isinstance(value[2], bool):
            return False
        return are_units(value[3]) and len(value[3]) <= MOST_UNITS
    if is_told_by(value, "hello", 2):
        return is_between(value[1], 0, MOST_UNITS)
    if is_told_by(value, "seen", 3):
        return is_between(value[1], 1, MOST_WIDTH) and is_between(value[2], 0, MOST_UNITS)
    if is_told_by(value, "answer", 3):
        return is_index(value[1], MOST_NUMBERS) and is_between(value[2], 0, MOST_UNITS)
    return False


def is_message(value):
    """Whether any value is a message."""
    return has_fit_parts(value) and len(middle_of(value)) <= MOST_MIDDLE


def is_from_sender(message):
    """Whether a message is one that the sender sends."""
    return message[0] in FROM_SENDER


def check_message(message):
    """Raise BadMessage if any value is no message."""
    if not is_message(message):
        raise BadMessage(message)


def bytes_of_unit(unit):
    """The list of the bytes of a unit."""
    if unit == BODY:
        return [0]
    if unit == REST:
        return [3]
    if unit[0] == "short":
        return [1, unit[1]]
    return [2, len(unit[1]), *unit[1].encode("ascii")]


def middle_of(message):
    """The list of the bytes in the middle of a message."""
    word = message[0]
    middle = [WORDS.index(word)]
    if word in ("probe", "seen"):
        # A width takes two bytes, the greater one first, and none is above 100.
        middle.append(0)
    for part in message[1:]:
        if isinstance(part, tuple):
            middle.append(len(part))
            for unit in part:
                middle.extend(bytes_of_unit(unit))
        else:
            middle.append(int(part))
    return middle


def pair_of(number):
    """The two bytes of a number, the greater one first."""
    return [number // 256, int(number) % 256]


def framed(middle):
    """The bytes of a message with this middle: its length, the middle and two sums."""
    told = [*pair_of(len(middle)), *middle]
    first = sum(told)
    second = sum([place * byte for place, byte in enumerate(told, start=1)])
    return bytes([*told, *pair_of(int(first) % MODULUS), *pair_of(int(second) % MODULUS)])


def form_of(message):
    """The bytes of a message that is known to be one."""
    return framed(middle_of(message))


def write_form(message):
    """The bytes of a message."""
    check_message(message)
    return form_of(message)


def read_form(data):
    """The message with these bytes."""
    if not isinstance(data, bytes):
        raise BadBytes(data)
    message = message_in(data)
    if message is None:
        raise BadBytes(data)
    return message


def message_in(data):
    """The message with these bytes, None if there is none."""
    message = message_with(list(data[AHEAD:-BEHIND]))
    # Whatever was read, it is right if just these bytes are written for it.
    if not is_message(message) or form_of(message) != data:
        return None
    return message


def message_with(middle):
    """What the middle of a message tells if it is one; any value if it is none."""
    if len(middle) == 0 or middle[0] >= len(WORDS):
        return None
    word = WORDS[middle[0]]
    parts = middle[1:]
    if word in ("probe", "seen"):
        parts = parts[1:]
    if word == "parcel" and len(parts) > 2:
        return (word, parts[0], parts[1] == 1, units_in(parts[3:]))
    return (word, *parts)


def units_in(parts):
    """The tuple of the units that some bytes tell, or begin to tell."""
    units = []
    at = 0
    while at < len(parts):
        unit, many = unit_in(parts[at:])
        units.append(unit)
        at += many
    return tuple(units)


def unit_in(parts):
    """The unit with which some bytes begin, None if there is none, and how many of them it takes."""
    kind = parts[0]
    if kind == 0:
        return BODY, 1
    if kind == 3:
        return REST, 1
    if kind == 1 and len(parts) > 1:
        return ("short", parts[1]), 2
    if kind == 2 and len(parts) > 1:
        many = 2 + parts[1]
        return ("long", name_in(parts[2:many])), many
    return None, 1


def name_in(parts):
    """The name that some bytes tell, None if they do not tell one."""
    if not all([97 <= byte <= 122 for byte in parts]):
        return None
    return bytes(parts).decode("ascii")


def message_width(message, head):
    """How wide a message is: a parcel by its head units and its units, a probe by its width."""
    check_message(message)
    if not is_between(head, 1, MOST_HEAD):
        raise BadPart("head")
    return width_of(message, head)


def width_of(message, head):
    """How wide a message is, both arguments being known to fit."""
    if message[0] == "parcel":
        return head + len(message[3])
    return message[1] if message[0] == "probe" else 0


def written(letter, book, long_cost):
    """The units of a letter, and the Book behind them."""
    if not is_letter(letter):
        raise BadLetter(None)
    check_book(book)
    if not is_between(long_cost, LEAST_COST, MOST_COST):
        raise BadPart("long_cost")
    heads, body = letter
    units = []
    for head in heads:
        word = book.word_for(head)
        units.append(word)
        if word[0] == "long":
            units.extend([REST] * (long_cost - 1))
        book = book.used(head)
    units.extend([BODY] * body)
    return tuple(units), book


def read_letter(units, book):
    """The letter that some units tell, and the Book behind it."""
    if not are_units(units):
        raise BadUnits(units)
    check_book(book)
    heads = []
    for unit in units:
        if is_word(unit):
            head = read_head(book, unit)
            heads.append(head)
            if head is not None:
                book = book.used(head)
    return (tuple(heads), len([unit for unit in units if unit == BODY])), book


def is_change_of(data, value):
    """Whether any value is a tuple of a place in some bytes and a byte."""
    return is_tuple_of(value, 2) and is_index(value[0], len(data)) and is_between(value[1], 0, MOST_BYTE)


def bent(data, changes):
    """The bytes with others at some places."""
    if not isinstance(data, bytes):
        raise BadBytes(data)
    if not is_list(changes):
        raise BadBend(None)
    told = list(data)
    for index, change in enumerate(changes):
        if not is_change_of(data, change):
            raise BadBend(index)
        told[change[0]] = change[1]
    return bytes(told)
