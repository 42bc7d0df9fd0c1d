"""Program texts as lists of numbers: their lines, and the words in these."""

from tanglemoves.refusals import NotWellFormed, OutOfRange

MOST_BYTES = 2000
MOST_LETTERS = 8
MOST_DIGITS = 2
LETTERS = "abcdefghijklmnopqrstuvwxyz"
DIGITS = "0123456789"
# The bytes of the newline, the space, the first digit, the first letter and the last sign.
NEWLINE = 10
SPACE = 32
ZERO = 48
LETTER_A = 97
LAST_SIGN = 126


def check_text(text):
    """Refuses a text that is too long or has a number that is no byte of a text."""
    if len(text) > MOST_BYTES:
        raise OutOfRange()
    for byte in text:
        if byte != NEWLINE and (byte < SPACE or byte > LAST_SIGN):
            raise OutOfRange()


def sign_of(byte):
    """The sign that a byte of a valid text stands for."""
    if byte == NEWLINE:
        return "\n"
    if byte == SPACE:
        return " "
    if ZERO <= byte < ZERO + len(DIGITS):
        return DIGITS[byte - ZERO]
    if LETTER_A <= byte < LETTER_A + len(LETTERS):
        return LETTERS[byte - LETTER_A]
    # No well-formed line has any other sign, so one of them can stand for all.
    return "?"


def lines_of(text):
    """The lines of a valid text, each as a list of its words."""
    signs = "".join([sign_of(byte) for byte in text])
    return [line.split() for line in signs.split("\n")]


def number_in(word, least, most):
    """The number that a word is, if it is one and lies in the range."""
    if not word.isdigit() or len(word) > MOST_DIGITS:
        raise NotWellFormed()
    if len(word) > 1 and word.startswith("0"):
        raise NotWellFormed()
    number = int(word)
    if number < least or number > most:
        raise NotWellFormed()
    return number


def name_in(word):
    """The name that a word is, if it is one."""
    # Of all letters, sign_of lets only the small ones through.
    if not word.isalpha() or len(word) > MOST_LETTERS:
        raise NotWellFormed()
    return word
