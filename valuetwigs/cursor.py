"""A place in a row of bytes, and what is read there: blanks, words, numbers, texts."""

from valuetwigs.kinds import TOO_LARGE_AMOUNT, bytes_of
from valuetwigs.signs import BACKSLASH, BLANKS, DIGIT_NINE, DIGIT_ZERO, MINUS, QUOTE
from valuetwigs.signs import HIGHEST_IN_TEXTS, LOWEST_IN_TEXTS

MOST_DIGITS = 16


class NoValue(Exception):
    pass


class Cursor:

    def __init__(self, row):
        self.row = row
        self.place = 0

    def at_end(self):
        return self.place >= len(self.row)

    # Behind the last byte it is -1, like no byte, so that nobody has to ask
    # for the end first.
    def sign(self):
        return -1 if self.at_end() else self.row[self.place]

    def sign_behind(self):
        return -1 if self.place + 1 >= len(self.row) else self.row[self.place + 1]

    def step(self):
        self.place += 1


def skip_blanks(cursor):
    while cursor.sign() in BLANKS:
        cursor.step()


def skip_word(cursor, word):
    for sign in bytes_of(word):
        if cursor.sign() != sign:
            raise NoValue()
        cursor.step()


def is_digit(sign):
    return sign >= DIGIT_ZERO and sign <= DIGIT_NINE


def read_digits(cursor):
    digits = []
    while is_digit(cursor.sign()):
        digits.append(cursor.sign() - DIGIT_ZERO)
        cursor.step()
    return digits


def read_amount(cursor):
    digits = read_digits(cursor)
    if len(digits) == 0 or len(digits) > MOST_DIGITS:
        raise NoValue()
    if digits[0] == 0 and len(digits) > 1:
        raise NoValue()
    amount = 0
    for digit in digits:
        amount = amount * 10 + digit
    if amount >= TOO_LARGE_AMOUNT:
        raise NoValue()
    return amount


def read_number(cursor):
    if cursor.sign() != MINUS:
        return read_amount(cursor)
    cursor.step()
    skip_blanks(cursor)
    amount = read_amount(cursor)
    if amount == 0:
        raise NoValue()
    return -amount


# The byte behind a backslash stands for itself, so a quote there doesn't end
# the text.
def read_text_byte(cursor):
    sign = cursor.sign()
    if sign == BACKSLASH:
        cursor.step()
        sign = cursor.sign()
        if sign != QUOTE and sign != BACKSLASH:
            raise NoValue()
    if sign < LOWEST_IN_TEXTS or sign > HIGHEST_IN_TEXTS:
        raise NoValue()
    cursor.step()
    return sign


def read_text(cursor):
    if cursor.sign() != QUOTE:
        raise NoValue()
    cursor.step()
    text = []
    while cursor.sign() != QUOTE:
        text.append(read_text_byte(cursor))
    cursor.step()
    return tuple(text)
