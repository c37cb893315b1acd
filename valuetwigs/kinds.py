"""The kinds of values, and how a value is held.

A value is a pair: its kind, and what it holds.

- null, false, true hold None;
- a number holds a whole number;
- a text holds a tuple of its bytes;
- a list holds a tuple of values;
- a record holds a tuple of fields, each a pair of a name (a tuple of its
  bytes) and a value, the names rising.
"""

# The kinds are numbered as the values of different kinds follow one another
# in order.
NULL = 0
FALSE = 1
TRUE = 2
NUMBER = 3
TEXT = 4
LIST = 5
RECORD = 6

# Each word stands in the place that its kind's number tells.
WORDS = ("null", "false", "true")


# Texts of the program's own become the bytes that they are written with.
def bytes_of(text):
    return [ord(letter) for letter in text]
