"""What lists and records have in them: entries by keys, and places, which are rows of keys.

A key is a value: a text is a name, a number a place in a list.
"""

from valuetwigs.kinds import LIST, NULL, NUMBER, RECORD, TEXT, make_list, make_null, make_number, make_record, make_text
from valuetwigs.stops import CannotPut, WrongKind


def is_key(value):
    return value[0] == TEXT or (value[0] == NUMBER and value[1] >= 0)


# A list or a record that may have an entry by such a key.
def fits_key(holder, key):
    return (holder[0] == RECORD and key[0] == TEXT) or (holder[0] == LIST and key[0] == NUMBER)


def field_of(fields, name):
    for field in fields:
        if field[0] == name:
            return field[1]
    return None


# None if there is no such entry.
def entry_of(holder, key):
    if not fits_key(holder, key):
        return None
    if holder[0] == RECORD:
        return field_of(holder[1], key[1])
    return holder[1][key[1]] if key[1] < len(holder[1]) else None


# None if nothing is there.
def entry_at(whole, row):
    there = whole
    for key in row:
        there = entry_of(there, key)
        if there is None:
            return None
    return there


def at_key(holder, key):
    if holder[0] != NULL and not fits_key(holder, key):
        raise WrongKind()
    found = entry_of(holder, key)
    return make_null() if found is None else found


def at_row(value, row):
    for key in row:
        value = at_key(value, key)
    return value


# Pairs of a key and a value, in order.
def entries_of(holder):
    if holder[0] == RECORD:
        return [(make_text(field[0]), field[1]) for field in holder[1]]
    if holder[0] == LIST:
        return [(make_number(place), value) for place, value in enumerate(holder[1])]
    raise WrongKind()


def with_field(fields, name, value):
    before = [field for field in fields if field[0] < name]
    behind = [field for field in fields if field[0] > name]
    return make_record(before + [(name, value)] + behind)


# Null counts as what has no entry yet.
def can_put(holder, key):
    if key[0] == TEXT:
        return holder[0] == RECORD or holder[0] == NULL
    if holder[0] == NULL:
        return key[1] == 0
    return holder[0] == LIST and key[1] <= len(holder[1])


def put_entry(holder, key, value):
    inner = () if holder[0] == NULL else holder[1]
    if key[0] == TEXT:
        return with_field(inner, key[1], value)
    return make_list(inner[:key[1]] + (value,) + inner[key[1] + 1:])


def built_up(holders, row, value):
    for place in range(len(holders) - 1, -1, -1):
        value = put_entry(holders[place], row[place], value)
    return value


def put_at(whole, row, value):
    holders = []
    there = whole
    for key in row:
        if not can_put(there, key):
            raise CannotPut()
        holders.append(there)
        there = at_key(there, key)
    return built_up(holders, row, value)


def without_entry(holder, key):
    if key[0] == TEXT:
        return make_record([field for field in holder[1] if field[0] != key[1]])
    return make_list(holder[1][:key[1]] + holder[1][key[1] + 1:])


def without_row(whole, row):
    if len(row) == 0:
        return make_null()
    holders = []
    there = whole
    for key in row:
        holders.append(there)
        there = entry_of(there, key)
        if there is None:
            return whole
    return built_up(holders[:-1], row, without_entry(holders[-1], row[-1]))


# The last row goes first, so that those that are still to go lie where they
# lay.
def without_rows(whole, rows):
    for row in reversed(sorted(set(rows))):
        whole = without_row(whole, row)
    return whole
