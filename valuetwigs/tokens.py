"""Reads the tokens of a program.

A token has a kind, a text: number, text, name, field (a name behind a dot),
variable (a name behind a dollar), finish (behind the last one); a word that
can't name a field in a record, and a sign, is its own kind.
"""

from valuetwigs.cursor import Cursor, NoValue, is_digit, read_amount, read_text, skip_blanks
from valuetwigs.kinds import bytes_of
from valuetwigs.signs import DIGIT_ZERO, DOLLAR, DOT, LARGE_A, LARGE_Z, PERCENT, QUOTE, SMALL_A, SMALL_Z, UNDERSCORE

MOST_NAME_BYTES = 32

OWN_KIND_WORDS = ("if", "then", "else", "end", "let", "in", "and", "or", "null", "true", "false", "fold")

DOUBLE_SIGNS = ("|=", "//", "==", "!=", "<=", ">=")
SINGLE_SIGNS = ".[]{}():;,|=<>+-*/?"

# The sign of byte 37 has a word for its kind: it may not stand in a text here.
PERCENT_KIND = "rest"

# The letters of names, and what stands among them, by their bytes from 48 on.
LETTERS_FROM_ZERO = "0123456789:;<=>?@ABCDEFGHIJKLMNOPQRSTUVWXYZ[\\]^_`abcdefghijklmnopqrstuvwxyz"


class NoProgram(Exception):
    pass


# What it holds: of a number, a text (a tuple of bytes) or a name (a text of
# the program's own) just that, else None.
class Token:

    def __init__(self, kind, held):
        self.kind = kind
        self.held = held


def begins_name(sign):
    is_large = sign >= LARGE_A and sign <= LARGE_Z
    is_small = sign >= SMALL_A and sign <= SMALL_Z
    return is_large or is_small or sign == UNDERSCORE


def read_name(cursor):
    letters = []
    while begins_name(cursor.sign()) or is_digit(cursor.sign()):
        letters.append(LETTERS_FROM_ZERO[cursor.sign() - DIGIT_ZERO])
        cursor.step()
    if len(letters) > MOST_NAME_BYTES:
        raise NoProgram()
    return "".join(letters)


def read_name_token(cursor):
    name = read_name(cursor)
    if name in OWN_KIND_WORDS:
        return Token(name, None)
    return Token("name", name)


def read_number_token(cursor):
    amount = read_amount(cursor)
    if begins_name(cursor.sign()):
        raise NoProgram()
    return Token("number", amount)


def read_name_behind(cursor, kind):
    cursor.step()
    return Token(kind, read_name(cursor))


def read_sign_token(cursor):
    both = [cursor.sign(), cursor.sign_behind()]
    for double in DOUBLE_SIGNS:
        if both == bytes_of(double):
            cursor.step()
            cursor.step()
            return Token(double, None)
    cursor.step()
    if both[0] == PERCENT:
        return Token(PERCENT_KIND, None)
    for single in SINGLE_SIGNS:
        if both[0] == ord(single):
            return Token(single, None)
    raise NoProgram()


def read_token(cursor):
    sign = cursor.sign()
    if is_digit(sign):
        return read_number_token(cursor)
    if sign == QUOTE:
        return Token("text", read_text(cursor))
    if begins_name(sign):
        return read_name_token(cursor)
    if sign == DOT and begins_name(cursor.sign_behind()):
        return read_name_behind(cursor, "field")
    if sign == DOLLAR and begins_name(cursor.sign_behind()):
        return read_name_behind(cursor, "variable")
    return read_sign_token(cursor)


def read_tokens(row):
    cursor = Cursor(row)
    tokens = []
    skip_blanks(cursor)
    while not cursor.at_end():
        try:
            tokens.append(read_token(cursor))
        except NoValue:
            raise NoProgram() from None
        skip_blanks(cursor)
    tokens.append(Token("finish", None))
    return tokens
