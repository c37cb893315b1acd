"""The calls. Each takes and answers lists of whole numbers, and keeps nothing."""

from valuetwigs.applying import CannotApply, applied, taken_back
from valuetwigs.changes import NoChanges, changes_in
from valuetwigs.cursor import NoValue
from valuetwigs.differing import changes_between
from valuetwigs.kinds import is_fit
from valuetwigs.programs import read_program
from valuetwigs.reading import read_value
from valuetwigs.running import run_program
from valuetwigs.tokens import NoProgram
from valuetwigs.writing import written, written_lines

NO_PROGRAM = -1
NO_FIRST_VALUE = -2
NO_SECOND_VALUE = -3
CANNOT_CHANGE = -16
TOO_MANY_TURNS = -22
TOO_LARGE = -28

MOST_TURNS = 10000
MOST_BYTES_ANSWERED = 65536


def answered(number, row):
    return [TOO_LARGE] if len(row) > MOST_BYTES_ANSWERED else [number] + row


def form(v):
    try:
        value = read_value(v)
    except NoValue:
        return [NO_FIRST_VALUE]
    return [0] + written(value)


def run(turns, p, v):
    try:
        program = read_program(p)
    except NoProgram:
        return [NO_PROGRAM]
    try:
        value = read_value(v)
    except NoValue:
        return [NO_FIRST_VALUE]
    if turns > MOST_TURNS:
        return [TOO_MANY_TURNS]
    machine = run_program(turns, program, value)
    return answered(machine.stop, written_lines([found.value for found in machine.given], MOST_BYTES_ANSWERED))


def differ(a, b):
    try:
        old = read_value(a)
    except NoValue:
        return [NO_FIRST_VALUE]
    try:
        new = read_value(b)
    except NoValue:
        return [NO_SECOND_VALUE]
    return answered(0, written(changes_between(old, new)))


# The work makes one value of a value and a list of changes.
def changed_answer(v, c, work):
    try:
        value = read_value(v)
    except NoValue:
        return [NO_FIRST_VALUE]
    try:
        changes = changes_in(read_value(c))
    except (NoValue, NoChanges):
        return [NO_SECOND_VALUE]
    try:
        changed = work(value, changes)
    except CannotApply:
        return [CANNOT_CHANGE]
    return [0] + written(changed) if is_fit(changed) else [TOO_LARGE]


def apply(v, c):
    return changed_answer(v, c, applied)


def back(v, c):
    return changed_answer(v, c, taken_back)
