"""Applies changes to a value, one after another, and takes them back."""

from valuetwigs.changes import turned_round
from valuetwigs.entries import entry_at, put_at, without_row
from valuetwigs.stops import CannotPut


class CannotApply(Exception):
    pass


# Nothing is at its place, so that its row has a last key: something is always
# at the empty row.
def with_added(whole, change):
    if entry_at(whole, change.row[:-1]) is None:
        raise CannotApply()
    try:
        return put_at(whole, change.row, change.new)
    except CannotPut:
        raise CannotApply() from None


def without_old(whole, change):
    if len(change.row) == 0:
        raise CannotApply()
    return without_row(whole, change.row)


# Where nothing is, None is found: just what a change has that tells of nothing
# there.
def changed_by(whole, change):
    if entry_at(whole, change.row) != change.old:
        raise CannotApply()
    if change.old is None and change.new is None:
        raise CannotApply()
    if change.old is None:
        return with_added(whole, change)
    if change.new is None:
        return without_old(whole, change)
    return put_at(whole, change.row, change.new)


# On the way it may be larger than a value can be: only what comes of it counts.
def applied(whole, changes):
    for change in changes:
        whole = changed_by(whole, change)
    return whole


def taken_back(whole, changes):
    return applied(whole, [turned_round(change) for change in reversed(changes)])
