"""Reads a row of bytes as a value.

The lists and records that are still open are kept in a row of their own, so
that a loop goes through them however deep they are nested.
"""

from valuetwigs.cursor import Cursor, NoValue, read_number, read_text, skip_blanks, skip_word
from valuetwigs.kinds import LIST, MOST_DEPTH, RECORD, WORDS
from valuetwigs.kinds import make_list, make_number, make_record, make_text, make_word
from valuetwigs.signs import COLON, COMMA, LIST_END, LIST_START, QUOTE, RECORD_END, RECORD_START

MOST_BYTES = 4096

# What has to stand next, if it isn't the end of the innermost list or record.
WANTS_VALUE = 0
WANTS_NAME = 1
WANTS_COLON = 2
WANTS_COMMA = 3
WANTS_NOTHING = 4


# A list or a record whose end hasn't been read yet.
class Opened:

    def __init__(self, kind):
        self.kind = kind
        self.listed = []
        self.fields = {}
        self.name = None

    def end_sign(self):
        return LIST_END if self.kind == LIST else RECORD_END

    def first_wanted(self):
        return WANTS_VALUE if self.kind == LIST else WANTS_NAME

    def put_name(self, name):
        if name in self.fields:
            raise NoValue()
        self.name = name

    def put_value(self, value):
        if self.kind == LIST:
            self.listed.append(value)
        else:
            self.fields[self.name] = value

    def as_value(self):
        if self.kind == LIST:
            return make_list(self.listed)
        return make_record([(name, self.fields[name]) for name in sorted(self.fields)])


class Reading:

    def __init__(self):
        self.opened = []
        self.whole = None
        self.wanted = WANTS_VALUE
        # An end may not stand behind a comma, nor between a name and its value.
        self.may_close = False

    def innermost(self):
        return self.opened[-1]

    def now_want(self, wanted, may_close):
        self.wanted = wanted
        self.may_close = may_close

    def begin(self, kind):
        if len(self.opened) == MOST_DEPTH:
            raise NoValue()
        self.opened.append(Opened(kind))
        self.now_want(self.innermost().first_wanted(), True)

    def take_value(self, value):
        if len(self.opened) == 0:
            self.whole = value
            self.now_want(WANTS_NOTHING, False)
        else:
            self.innermost().put_value(value)
            self.now_want(WANTS_COMMA, True)

    def close_innermost(self):
        self.take_value(self.opened.pop().as_value())


def read_single(cursor):
    if cursor.sign() == QUOTE:
        return make_text(read_text(cursor))
    for kind, word in enumerate(WORDS):
        if cursor.sign() == ord(word[0]):
            skip_word(cursor, word)
            return make_word(kind)
    return make_number(read_number(cursor))


def read_into_value(cursor, reading):
    if cursor.sign() == LIST_START:
        cursor.step()
        reading.begin(LIST)
    elif cursor.sign() == RECORD_START:
        cursor.step()
        reading.begin(RECORD)
    else:
        reading.take_value(read_single(cursor))


def read_name(cursor, reading):
    reading.innermost().put_name(read_text(cursor))
    reading.now_want(WANTS_COLON, False)


def read_between(cursor, reading, sign, wanted):
    if cursor.sign() != sign:
        raise NoValue()
    cursor.step()
    reading.now_want(wanted, False)


def read_next(cursor, reading):
    if reading.may_close and cursor.sign() == reading.innermost().end_sign():
        cursor.step()
        reading.close_innermost()
    elif reading.wanted == WANTS_VALUE:
        read_into_value(cursor, reading)
    elif reading.wanted == WANTS_NAME:
        read_name(cursor, reading)
    elif reading.wanted == WANTS_COLON:
        read_between(cursor, reading, COLON, WANTS_VALUE)
    elif reading.wanted == WANTS_COMMA:
        read_between(cursor, reading, COMMA, reading.innermost().first_wanted())
    else:
        raise NoValue()


# Nobody has to count the size: each value, and each byte of a text or a name,
# takes a byte of the row at least, so the row's length bounds it.
def read_value(row):
    if len(row) > MOST_BYTES:
        raise NoValue()
    cursor = Cursor(row)
    reading = Reading()
    skip_blanks(cursor)
    while not cursor.at_end():
        read_next(cursor, reading)
        skip_blanks(cursor)
    if reading.wanted != WANTS_NOTHING:
        raise NoValue()
    return reading.whole
