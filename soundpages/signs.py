"""Bytes, and the signs of names."""

NEWLINE = 10
BLANK = 32
QUOTE = 34
AMPERSAND = 38
HYPHEN = 45
DIGIT_0 = 48
DIGIT_9 = 57
LESS = 60
GREATER = 62
LETTER_A = 97
LETTER_Z = 122
BRACE = 123

LETTERS = "abcdefghijklmnopqrstuvwxyz"
DIGITS = "0123456789"

# How these bytes are written in the one form; read, each stands for its byte.
ESCAPES = {60: "&lt;", 62: "&gt;", 38: "&amp;", 34: "&quot;"}


def codes(text):
    return [ord(sign) for sign in text]


def may_stand(byte):
    return byte == NEWLINE or BLANK <= byte <= 255


def is_digit(byte):
    return DIGIT_0 <= byte <= DIGIT_9


# The sign of a byte that may stand in a name, or an empty text.
def name_sign(byte):
    if LETTER_A <= byte <= LETTER_Z:
        return LETTERS[byte - LETTER_A]
    if is_digit(byte):
        return DIGITS[byte - DIGIT_0]
    if byte == HYPHEN:
        return "-"
    return ""


def begins_name(byte):
    return LETTER_A <= byte <= LETTER_Z


def begins_with(row, text):
    return row[:len(text)] == codes(text)
