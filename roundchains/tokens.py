"""A text's bytes, cut into tokens."""

from roundchains.faults import Fault, NO_TOKEN, TOO_LONG

MOST_BYTES = 4096
MOST_WORD_BYTES = 16
MOST_NUMBER = 1000000000

BLANKS = (32, 9, 10)
LINE_END = 10
REMARK = 35
MINUS = 45
GREATER = 62
DIGIT_ZERO = 48

SIGNS = {
    61: "=", 123: "{", 125: "}", 40: "(", 41: ")", 91: "[", 93: "]",
    44: ",", 59: ";", 58: ":", 47: "/", 124: "|",
}

# All signs of the bytes 48 to 122, so that a word's bytes can be turned into a text.
FROM_ZERO = "0123456789:;<=>?@ABCDEFGHIJKLMNOPQRSTUVWXYZ[\\]^_`abcdefghijklmnopqrstuvwxyz"

NO_NAMES = (
    "chance", "budget", "def", "let", "observe", "tell", "table", "net", "flag",
    "num", "if", "flip", "pick", "uniform", "given", "weigh", "true", "false",
)

NAME = "name"
NUMBER = "number"
END = "end"


class Token:
    """A token: its kind, its value, its place and the place behind it.

    The kind is NAME, NUMBER, END (behind all others), or, of signs and of words that are no
    names, what is written there. None of those words is spelled like one of the three kinds.
    """

    def __init__(self, kind, value, place, behind):
        self.kind = kind
        self.value = value
        self.place = place
        self.behind = behind


def tokens_of(text):
    """All tokens of a text, with one of the kind END behind them; raises the text's first Fault."""
    if len(text) > MOST_BYTES:
        raise Fault(TOO_LONG, MOST_BYTES)
    tokens = []
    place = past_blanks(text, 0)
    while place < len(text):
        token = token_at(text, place)
        tokens.append(token)
        place = past_blanks(text, token.behind)
    tokens.append(Token(END, 0, len(text), len(text)))
    return tokens


def past_blanks(text, place):
    """The first place from here on that is no blank and in no remark."""
    while place < len(text):
        if text[place] == REMARK:
            place = past_remark(text, place)
        elif text[place] in BLANKS:
            place += 1
        else:
            return place
    return place


def past_remark(text, place):
    """The place where the remark that begins here has ended."""
    while place < len(text) and text[place] != LINE_END:
        place += 1
    return place


def token_at(text, place):
    """The token that stands at a place."""
    byte = text[place]
    if is_letter(byte):
        return word_at(text, place)
    if byte == MINUS and text[place + 1:place + 2] == [GREATER]:
        return Token("->", 0, place, place + 2)
    if is_digit(byte) or byte == MINUS:
        return number_at(text, place)
    if byte in SIGNS:
        return Token(SIGNS[byte], 0, place, place + 1)
    raise Fault(NO_TOKEN, place)


def word_at(text, place):
    """The name, or the word that is no name, at a place where a letter stands."""
    behind = place
    while behind < len(text) and (is_letter(text[behind]) or is_digit(text[behind])):
        behind += 1
    if behind - place > MOST_WORD_BYTES:
        raise Fault(NO_TOKEN, place)
    word = "".join([FROM_ZERO[byte - DIGIT_ZERO] for byte in text[place:behind]])
    if word in NO_NAMES:
        return Token(word, word, place, behind)
    return Token(NAME, word, place, behind)


def number_at(text, place):
    """The number at a place where a digit or a - stands."""
    below = text[place] == MINUS
    first = place + 1 if below else place
    behind = first
    size = 0
    while behind < len(text) and is_digit(text[behind]):
        size = size * 10 + text[behind] - DIGIT_ZERO
        behind += 1
    if behind == first or size > MOST_NUMBER:
        raise Fault(NO_TOKEN, place)
    if text[first] == DIGIT_ZERO and (below or behind - first > 1):
        raise Fault(NO_TOKEN, place)
    return Token(NUMBER, -size if below else size, place, behind)


def is_letter(byte):
    """Whether a byte is one of A to Z and a to z."""
    return 65 <= byte <= 90 or 97 <= byte <= 122


def is_digit(byte):
    """Whether a byte is one of 0 to 9."""
    return 48 <= byte <= 57
