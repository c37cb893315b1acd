"""What the words that ask for nothing make of a value."""

from valuetwigs.cursor import NoValue
from valuetwigs.entries import entries_of
from valuetwigs.kinds import KIND_WORDS, LIST, NULL, NUMBER, RECORD, TEXT
from valuetwigs.kinds import bytes_of, holds, make_list, make_number, make_text, make_truth
from valuetwigs.reading import read_value
from valuetwigs.stops import WrongKind
from valuetwigs.writing import written


def opposite_truth(value):
    return make_truth(not holds(value))


def length_of(value):
    if value[0] == NULL:
        return make_number(0)
    if value[0] == NUMBER:
        return make_number(abs(value[1]))
    if value[0] in (TEXT, LIST, RECORD):
        return make_number(len(value[1]))
    raise WrongKind()


def keys_of(value):
    return make_list([entry[0] for entry in entries_of(value)])


def kind_of(value):
    return make_text(bytes_of(KIND_WORDS[value[0]]))


def in_order(value):
    if value[0] != LIST:
        raise WrongKind()
    return make_list(sorted(value[1]))


def form_of(value):
    return make_text(written(value))


def value_of(value):
    if value[0] != TEXT:
        raise WrongKind()
    try:
        return read_value(value[1])
    except NoValue:
        raise WrongKind() from None


WORD_WORKS = {
    "not": opposite_truth, "length": length_of, "keys": keys_of, "kind": kind_of, "sort": in_order, "form": form_of,
    "value": value_of,
}


def made_by_word(word, value):
    work = WORD_WORKS[word]
    return work(value)
