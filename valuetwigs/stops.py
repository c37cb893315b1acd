"""How a program ends: it is done, stops by an error, or for want of turns."""

DONE = 0
WRONG_KIND = 1
TOO_LARGE = 2
BY_ZERO = 3
ASKED_FOR = 4
NONE_GIVEN = 5
CANNOT_PUT = 6
NO_PLACE = 7
NO_TURNS = 8


class WrongKind(Exception):
    pass


class NumberTooLarge(Exception):
    pass


class DivisionByZero(Exception):
    pass


class CannotPut(Exception):
    pass
