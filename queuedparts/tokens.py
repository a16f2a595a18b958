"""From the bytes of a text to its tokens."""

from queuedparts.faults import NO_TOKEN, Fault

WORD = "word"
NUMBER = "number"
QUOTED = "quoted"
SIGN = "sign"
END = "end"

LONGEST_WORD = 16
LONGEST_QUOTED = 255
GREATEST_NUMBER = 1000000000
MOST_DIGITS = 10

TAB = 9
LINE_FEED = 10
BLANK = 32
QUOTE = 34
REMARK = 35
MINUS = 45
LESS = 60
GREATER = 62
BACKSLASH = 92
SMALL_N = 110
SMALL_X = 120

DIGITS = "0123456789"
GREAT_LETTERS = "ABCDEFGHIJKLMNOPQRSTUVWXYZ"
SMALL_LETTERS = "abcdefghijklmnopqrstuvwxyz"
SIGNS = {
    33: "!", 40: "(", 41: ")", 44: ",", 58: ":", 59: ";", 61: "=",
    63: "?", 91: "[", 93: "]", 123: "{", 124: "|", 125: "}",
}


class Token:
    """A token, the offset of its first byte, and the offset behind its last one.

    Words and signs have their text; numbers have their amount. A quoted text's bytes are not kept,
    since no part has a place for one.
    """

    def __init__(self, kind, text, amount, place, behind):
        self.kind = kind
        self.text = text
        self.amount = amount
        self.place = place
        self.behind = behind


def tokens_of(source):
    """All tokens of the bytes, and one more that stands for the end."""
    found = []
    place = past_blanks(source, 0)
    while place < len(source):
        token = token_at(source, place)
        found.append(token)
        place = past_blanks(source, token.behind)
    found.append(Token(END, "", 0, len(source), len(source)))
    return found


def past_blanks(source, place):
    while place < len(source):
        if source[place] == REMARK:
            place = line_end(source, place)
        elif source[place] in (BLANK, TAB, LINE_FEED):
            place += 1
        else:
            return place
    return place


def line_end(source, place):
    while place < len(source) and source[place] != LINE_FEED:
        place += 1
    return place


def token_at(source, place):
    byte = source[place]
    follower = byte_at(source, place + 1)
    if is_letter(byte):
        return word_at(source, place)
    if is_digit(byte):
        return number_at(source, place, place)
    if byte == MINUS and is_digit(follower):
        return number_at(source, place, place + 1)
    if byte == QUOTE:
        return quoted_at(source, place)
    if byte == MINUS and follower == GREATER:
        return Token(SIGN, "->", 0, place, place + 2)
    if byte == LESS and follower == MINUS:
        return Token(SIGN, "<-", 0, place, place + 2)
    if byte in SIGNS:
        return Token(SIGN, SIGNS[byte], 0, place, place + 1)
    raise Fault(NO_TOKEN, place)


def byte_at(source, place):
    """The byte there; behind the end -1, which is no byte and so equals none."""
    if place < len(source):
        return source[place]
    return -1


def is_digit(byte):
    return 48 <= byte <= 57


def is_letter(byte):
    return 65 <= byte <= 90 or 97 <= byte <= 122


def letter_of(byte):
    if is_digit(byte):
        return DIGITS[byte - 48]
    if byte <= 90:
        return GREAT_LETTERS[byte - 65]
    return SMALL_LETTERS[byte - 97]


def word_at(source, place):
    behind = place
    while is_letter(byte_at(source, behind)) or is_digit(byte_at(source, behind)):
        behind += 1
    if behind - place > LONGEST_WORD:
        raise Fault(NO_TOKEN, place)
    text = "".join([letter_of(byte) for byte in source[place:behind]])
    return Token(WORD, text, 0, place, behind)


def number_at(source, place, digits):
    """The number that begins at place; its first digit stands at digits, behind a - if there is one."""
    behind = digits
    while is_digit(byte_at(source, behind)):
        behind += 1
    size = digits_told(source[digits:behind], place)
    negative = digits > place
    if size > GREATEST_NUMBER or (negative and size == 0):
        raise Fault(NO_TOKEN, place)
    return Token(NUMBER, "", -size if negative else size, place, behind)


def digits_told(digits, place):
    if len(digits) > MOST_DIGITS or (len(digits) > 1 and digits[0] == 48):
        raise Fault(NO_TOKEN, place)
    size = 0
    for digit in digits:
        size = size * 10 + digit - 48
    return size


def quoted_at(source, place):
    told = 0
    behind = place + 1
    while behind < len(source) and source[behind] != QUOTE:
        width = width_of_told(source, behind)
        if width == 0:
            raise Fault(NO_TOKEN, place)
        behind += width
        told += 1
    if behind >= len(source) or told > LONGEST_QUOTED:
        raise Fault(NO_TOKEN, place)
    return Token(QUOTED, "", 0, place, behind + 1)


def width_of_told(source, place):
    """How many bytes within quotes tell the one byte that is told there; 0 if they are not right."""
    if source[place] == LINE_FEED:
        return 0
    if source[place] != BACKSLASH:
        return 1
    escape = byte_at(source, place + 1)
    if escape in (QUOTE, BACKSLASH, SMALL_N):
        return 2
    if escape == SMALL_X and is_hex(byte_at(source, place + 2)) and is_hex(byte_at(source, place + 3)):
        return 4
    return 0


def is_hex(byte):
    return is_digit(byte) or 97 <= byte <= 102
