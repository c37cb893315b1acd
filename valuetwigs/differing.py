"""What differs between two values, as a list of changes.

What is still to be compared waits in a row, so that a loop goes through it
however deep the values are nested.
"""

from valuetwigs.changes import Change, change_value
from valuetwigs.entries import field_of
from valuetwigs.kinds import LIST, RECORD, make_list, make_number, make_text


# Two values that have to be compared, and the row of keys that leads to both.
# One of them is None where only the other one has something there.
class Compared:

    def __init__(self, row, old, new):
        self.row = row
        self.old = old
        self.new = new

    def both_are(self, kind):
        return self.old is not None and self.new is not None and self.old[0] == kind and self.new[0] == kind

    def deeper(self, key, old, new):
        return Compared(self.row + (key,), old, new)


def compared_fields(compared):
    old = compared.old[1]
    new = compared.new[1]
    names = sorted(set([field[0] for field in old + new]))
    return [compared.deeper(make_text(name), field_of(old, name), field_of(new, name)) for name in names]


# Only one of the lists is longer, so that at most one of the last two rows has
# something in it. The last one of the old list goes first: taken away in this
# order each lies where it lay.
def compared_places(compared):
    old = compared.old[1]
    new = compared.new[1]
    shared = min(len(old), len(new))
    in_both = [compared.deeper(make_number(place), old[place], new[place]) for place in range(shared)]
    only_old = [compared.deeper(make_number(place), old[place], None) for place in range(len(old) - 1, shared - 1, -1)]
    only_new = [compared.deeper(make_number(place), None, new[place]) for place in range(shared, len(new))]
    return in_both + only_old + only_new


def changes_between(old, new):
    changes = []
    waiting = [Compared((), old, new)]
    while len(waiting) > 0:
        compared = waiting.pop()
        if compared.old == compared.new:
            continue
        if compared.both_are(RECORD):
            waiting.extend(list(reversed(compared_fields(compared))))
        elif compared.both_are(LIST):
            waiting.extend(list(reversed(compared_places(compared))))
        else:
            changes.append(change_value(Change(compared.row, compared.old, compared.new)))
    return make_list(changes)
