"""Texts into tokens."""

WORDS = ("at", "board", "gate", "hopper", "tray", "wheel", "with")
LETTERS = "abcdefghijklmnopqrstuvwxyz"
MOST_LETTERS = 16
MOST_DIGITS = 3

BLANK = 32
LINE_END = 10
ZERO = 48
NINE = 57
SEMICOLON = 59
LETTER_A = 97
LETTER_Z = 122


class Token:
    """Of a word or a sign the kind is the word or sign itself; else "name", "number", "none" or "end".

    "none" is what is no token, "end" stands behind the last one: no board's text goes on with "none".
    """

    def __init__(self, kind, value, place):
        self.kind = kind
        self.value = value
        self.place = place


def is_letter(byte):
    return LETTER_A <= byte <= LETTER_Z


def is_digit(byte):
    return ZERO <= byte <= NINE


def row_end(text, begin, belongs):
    """The place behind the longest row of bytes from begin that all belong."""
    place = begin
    while place < len(text) and belongs(text[place]):
        place += 1
    return place


def letters_token(row, place):
    if len(row) > MOST_LETTERS:
        return Token("none", None, place)
    letters = "".join([LETTERS[byte - LETTER_A] for byte in row])
    if letters in WORDS:
        return Token(letters, letters, place)
    return Token("name", letters, place)


def digits_token(row, place):
    if len(row) > MOST_DIGITS or (len(row) > 1 and row[0] == ZERO):
        return Token("none", None, place)
    number = 0
    for byte in row:
        number = number * 10 + byte - ZERO
    return Token("number", number, place)


def scan(text):
    """The tokens of a text, what is no token among them, and its end."""
    tokens = []
    place = 0
    while place < len(text):
        byte = text[place]
        behind = place + 1
        if is_letter(byte):
            behind = row_end(text, place, is_letter)
            tokens.append(letters_token(text[place:behind], place))
        elif is_digit(byte):
            behind = row_end(text, place, is_digit)
            tokens.append(digits_token(text[place:behind], place))
        elif byte == SEMICOLON:
            tokens.append(Token(";", ";", place))
        elif byte != BLANK and byte != LINE_END:
            tokens.append(Token("none", None, place))
        place = behind
    tokens.append(Token("end", None, len(text)))
    return tokens
