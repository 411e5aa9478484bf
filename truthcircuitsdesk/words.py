"""Texts of bytes, cut into tokens."""

from truthcircuitsdesk.faults import NO_TOKEN, TOO_MANY_BYTES, Fault

WORD = 1
NUMBER = 2
SIGN = 3
END = 4

MOST_BYTES = 4096
LONGEST_WORD = 16
MOST_DIGITS = 10
GREATEST_NUMBER = 1000000000

BLANKS = (32, 9, 10)
LINE_END = 10
REMARK = 35
MINUS = 45
GREATER = 62
ZERO = 48
ARROW = "->"

# Bytes become texts by looking them up: these are the bytes from 48 to 122, which hold all letters and digits.
CHARACTERS = "0123456789:;<=>?@ABCDEFGHIJKLMNOPQRSTUVWXYZ[\\]^_`abcdefghijklmnopqrstuvwxyz"

SIGNS = {
    61: "=", 123: "{", 125: "}", 40: "(", 41: ")", 91: "[", 93: "]",
    44: ",", 59: ";", 58: ":", 47: "/", 124: "|",
}

NOT_NAMES = (
    "chance", "budget", "def", "let", "observe", "tell", "table", "net", "flag", "num",
    "if", "flip", "pick", "uniform", "given", "weigh", "true", "false",
)


class Token:
    def __init__(self, kind, said, place, behind):
        self.kind = kind
        self.said = said
        self.place = place
        self.behind = behind


def is_letter(byte):
    return 65 <= byte <= 90 or 97 <= byte <= 122


def is_digit(byte):
    return 48 <= byte <= 57


def is_name(token):
    return token.kind == WORD and token.said not in NOT_NAMES


def behind_remark(text, place):
    while place < len(text) and text[place] != LINE_END:
        place += 1
    return place


def behind_blanks(text, place):
    while place < len(text) and (text[place] in BLANKS or text[place] == REMARK):
        if text[place] == REMARK:
            place = behind_remark(text, place)
        else:
            place += 1
    return place


def behind_digits(text, place):
    while place < len(text) and is_digit(text[place]):
        place += 1
    return place


def word_at(text, place):
    behind = place
    while behind < len(text) and (is_letter(text[behind]) or is_digit(text[behind])):
        behind += 1
    if behind - place > LONGEST_WORD:
        raise Fault(NO_TOKEN, place)
    said = "".join([CHARACTERS[byte - ZERO] for byte in text[place:behind]])
    return Token(WORD, said, place, behind)


def number_at(text, place):
    below = text[place] == MINUS
    begin = place + 1 if below else place
    behind = behind_digits(text, begin)
    digits = text[begin:behind]
    if len(digits) == 0 or len(digits) > MOST_DIGITS:
        raise Fault(NO_TOKEN, place)
    if digits[0] == ZERO and (below or len(digits) > 1):
        raise Fault(NO_TOKEN, place)
    size = 0
    for digit in digits:
        size = size * 10 + digit - ZERO
    if size > GREATEST_NUMBER:
        raise Fault(NO_TOKEN, place)
    return Token(NUMBER, -size if below else size, place, behind)


def is_arrow(text, place):
    return text[place] == MINUS and place + 1 < len(text) and text[place + 1] == GREATER


def token_at(text, place):
    byte = text[place]
    if is_letter(byte):
        return word_at(text, place)
    if is_arrow(text, place):
        return Token(SIGN, ARROW, place, place + 2)
    if is_digit(byte) or byte == MINUS:
        return number_at(text, place)
    if byte in SIGNS:
        return Token(SIGN, SIGNS[byte], place, place + 1)
    raise Fault(NO_TOKEN, place)


# The end of the text is a token too, so that a fault there has a place like any other.
def tokens_of(text):
    if len(text) > MOST_BYTES:
        raise Fault(TOO_MANY_BYTES, MOST_BYTES)
    tokens = []
    place = behind_blanks(text, 0)
    while place < len(text):
        token = token_at(text, place)
        tokens.append(token)
        place = behind_blanks(text, token.behind)
    tokens.append(Token(END, "", len(text), len(text)))
    return tokens
