"""What the operators make of two values."""

from valuetwigs.kinds import LIST, NULL, NUMBER, RECORD, TEXT, TOO_LARGE_AMOUNT
from valuetwigs.kinds import make_list, make_number, make_record, make_text, make_truth
from valuetwigs.stops import DivisionByZero, NumberTooLarge, WrongKind


def fit_number(amount):
    if abs(amount) >= TOO_LARGE_AMOUNT:
        raise NumberTooLarge()
    return make_number(amount)


def both_are(kind, front, behind):
    return front[0] == kind and behind[0] == kind


def together(front, behind):
    fields = {}
    for field in front[1] + behind[1]:
        fields[field[0]] = field[1]
    return make_record([(name, fields[name]) for name in sorted(fields)])


def added(front, behind):
    if front[0] == NULL:
        return behind
    if behind[0] == NULL:
        return front
    if both_are(NUMBER, front, behind):
        return fit_number(front[1] + behind[1])
    if both_are(TEXT, front, behind):
        return make_text(front[1] + behind[1])
    if both_are(LIST, front, behind):
        return make_list(front[1] + behind[1])
    if both_are(RECORD, front, behind):
        return together(front, behind)
    raise WrongKind()


def without_those(front, behind):
    left_out = {}
    for value in behind[1]:
        left_out[value] = True
    return make_list([value for value in front[1] if value not in left_out])


def taken_away(front, behind):
    if both_are(NUMBER, front, behind):
        return fit_number(front[1] - behind[1])
    if both_are(LIST, front, behind):
        return without_those(front, behind)
    raise WrongKind()


def multiplied(front, behind):
    if not both_are(NUMBER, front, behind):
        raise WrongKind()
    return fit_number(front[1] * behind[1])


def check_division(front, behind):
    if not both_are(NUMBER, front, behind):
        raise WrongKind()
    if behind[1] == 0:
        raise DivisionByZero()


# Python cuts towards what is lower; so the amounts are divided without signs.
def divided(front, behind):
    check_division(front, behind)
    quotient = abs(front[1]) // abs(behind[1])
    return make_number(quotient if (front[1] < 0) == (behind[1] < 0) else -quotient)


def rest_of_division(front, behind):
    check_division(front, behind)
    rest = abs(front[1]) % abs(behind[1])
    return make_number(-rest if front[1] < 0 else rest)


def is_same(front, behind):
    return make_truth(front == behind)


def is_other(front, behind):
    return make_truth(front != behind)


def is_below(front, behind):
    return make_truth(front < behind)


def is_at_most(front, behind):
    return make_truth(front <= behind)


def is_above(front, behind):
    return make_truth(front > behind)


def is_at_least(front, behind):
    return make_truth(front >= behind)


OPERATIONS = {
    "+": added, "-": taken_away, "*": multiplied, "/": divided, "rest": rest_of_division,
    "==": is_same, "!=": is_other, "<": is_below, "<=": is_at_most, ">": is_above, ">=": is_at_least,
}


def operated(kind, front, behind):
    operation = OPERATIONS[kind]
    return operation(front, behind)


def opposite(value):
    if value[0] != NUMBER:
        raise WrongKind()
    return make_number(-value[1])
