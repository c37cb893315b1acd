"""Changes: what was at a place, and what is there then; made into values, and read from them."""

from valuetwigs.entries import field_of, is_key
from valuetwigs.kinds import LIST, RECORD, bytes_of, make_list, make_record


class NoChanges(Exception):
    pass


# The row of keys leads to its place. What was there is None where nothing was,
# and what is there then where nothing is.
class Change:

    def __init__(self, row, old, new):
        self.row = row
        self.old = old
        self.new = new


def turned_round(change):
    return Change(change.row, change.new, change.old)


def name_of(word):
    return tuple(bytes_of(word))


def change_value(change):
    fields = [(name_of("at"), make_list(change.row))]
    if change.new is not None:
        fields.append((name_of("is"), change.new))
    if change.old is not None:
        fields.append((name_of("was"), change.old))
    return make_record(fields)


def row_in(value):
    if value[0] != LIST or not all([is_key(key) for key in value[1]]):
        raise NoChanges()
    return value[1]


def has_other_names(fields):
    names = [name_of("at"), name_of("is"), name_of("was")]
    return any([field[0] not in names for field in fields])


def change_in(value):
    if value[0] != RECORD or has_other_names(value[1]):
        raise NoChanges()
    place = field_of(value[1], name_of("at"))
    if place is None:
        raise NoChanges()
    return Change(row_in(place), field_of(value[1], name_of("was")), field_of(value[1], name_of("is")))


def changes_in(value):
    if value[0] != LIST:
        raise NoChanges()
    return [change_in(each) for each in value[1]]
