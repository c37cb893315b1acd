"""The calls. Each takes and answers lists of whole numbers, and keeps nothing."""

from valuetwigs.cursor import NoValue
from valuetwigs.reading import read_value
from valuetwigs.writing import written


def form(v):
    try:
        value = read_value(v)
    except NoValue:
        return [-2]
    return [0] + written(value)
