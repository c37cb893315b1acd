"""The kinds of values, and how a value is held.

A value is a row of four: its kind, what it holds, its size and its depth.

- null, false, true hold None;
- a number holds a whole number;
- a text holds a tuple of its bytes;
- a list holds a tuple of values;
- a record holds a tuple of fields, each a pair of a name (a tuple of its
  bytes) and a value, the names rising.

Held so, values come in their order by Python's own comparison of tuples: first
by kind, then by what they hold; size and depth follow from these and decide
nothing.
"""

# The kinds are numbered as the values of different kinds follow one another
# in order.
NULL = 0
FALSE = 1
TRUE = 2
NUMBER = 3
TEXT = 4
LIST = 5
RECORD = 6

# Each word stands in the place that its kind's number tells.
WORDS = ("null", "false", "true")
KIND_WORDS = ("null", "truth", "truth", "number", "text", "list", "record")

MOST_SIZE = 4096
MOST_DEPTH = 40
TOO_LARGE_AMOUNT = 9007199254740992


# Texts of the program's own become the bytes that they are written with.
def bytes_of(text):
    return [ord(letter) for letter in text]


# Null, false or true, by its kind.
def make_word(kind):
    return (kind, None, 1, 0)


def make_null():
    return make_word(NULL)


def make_truth(holding):
    return make_word(TRUE if holding else FALSE)


def make_number(amount):
    return (NUMBER, amount, 1, 0)


def make_text(signs):
    return (TEXT, tuple(signs), 1 + len(signs), 0)


def make_list(inner):
    size = 1 + sum([value[2] for value in inner])
    depth = 1 + max([value[3] for value in inner], default=0)
    return (LIST, tuple(inner), size, depth)


# The names of the fields have to rise already.
def make_record(fields):
    size = 1 + sum([len(field[0]) + field[1][2] for field in fields])
    depth = 1 + max([field[1][3] for field in fields], default=0)
    return (RECORD, tuple(fields), size, depth)


def is_fit(value):
    return value[2] <= MOST_SIZE and value[3] <= MOST_DEPTH


# Whether a value counts as true where a program asks for a truth.
def holds(value):
    return value[0] != NULL and value[0] != FALSE
