"""Changes applied another way, to copies of Python's own values, and what the tests of apply and back share."""

import copy
import json
import random

NAMES = ("a", "b", "c", "", "ab", 'q"\\')
MISSING = object()


def row_of(text):
    return list(text.encode("latin-1"))


def form_of(value):
    """Names rise by their bytes here, too, since all of them are ASCII."""
    return json.dumps(value, sort_keys=True, separators=(",", ":"))


def same(one, other):
    """So that true and 1 aren't the same."""
    return one is not MISSING and other is not MISSING and form_of(one) == form_of(other)


def size_of(value):
    if isinstance(value, list):
        return 1 + sum(size_of(inner) for inner in value)
    if isinstance(value, dict):
        return 1 + sum(len(name) + size_of(inner) for name, inner in value.items())
    return 1 + len(value) if isinstance(value, str) else 1


def depth_of(value):
    inner = list(value.values()) if isinstance(value, dict) else value
    return 1 + max(map(depth_of, inner), default=0) if isinstance(inner, list) else 0


def is_in(holder, key):
    if isinstance(holder, dict):
        return isinstance(key, str) and key in holder
    return isinstance(holder, list) and isinstance(key, int) and key < len(holder)


def look(value, row):
    for key in row:
        if not is_in(value, key):
            return MISSING
        value = value[key]
    return value


def put(value, row, new):
    """The value with the new one in that place, or MISSING if it can't be there; the rest of the row leads somewhere."""
    if not row:
        return new
    holder = look(value, row[:-1])
    if holder is None:
        return put(value, row[:-1], {row[-1]: new} if isinstance(row[-1], str) else [new] if row[-1] == 0 else MISSING)
    if isinstance(holder, dict) and isinstance(row[-1], str):
        holder[row[-1]] = new
    elif isinstance(holder, list) and isinstance(row[-1], int) and row[-1] <= len(holder):
        holder[row[-1]:row[-1] + 1] = [new]
    else:
        return MISSING
    return MISSING if new is MISSING else value


def change_once(value, change):
    row, old, new = change["at"], change.get("was", MISSING), change.get("is", MISSING)
    there = look(value, row)
    if old is MISSING:
        if new is MISSING or there is not MISSING or look(value, row[:-1]) is MISSING:
            return MISSING
        return put(value, row, new)
    if not same(there, old) or (new is MISSING and not row):
        return MISSING
    if new is MISSING:
        look(value, row[:-1]).pop(row[-1])
        return value
    return put(value, row, new)


def outcome(value, changes):
    """What apply answers, of Python's own values: a number below 0, or a form."""
    for change in changes:
        value = change_once(copy.deepcopy(value), copy.deepcopy(change))
        if value is MISSING:
            return -16
    return -28 if size_of(value) > 4096 or depth_of(value) > 40 else form_of(value)


def answer_of(result):
    return [0] + row_of(result) if isinstance(result, str) else [result]


def turned(changes):
    """What back applies in place of the changes."""
    names = {"at": "at", "was": "is", "is": "was"}
    return [{names[name]: change[name] for name in change} for change in reversed(changes)]


def places_in(value, row=()):
    yield list(row)
    entries = value.items() if isinstance(value, dict) else enumerate(value) if isinstance(value, list) else ()
    for key, inner in entries:
        yield from places_in(inner, (*row, key))


class ChangeMaker:
    """Makes values and changes at random; the same ones for the same seed."""

    def __init__(self, seed):
        self.random = random.Random(seed)

    def value(self, left):
        shape = self.random.randrange(6 if left else 4)
        if shape == 4:
            return [self.value(left - 1) for _ in range(self.random.randrange(4))]
        if shape == 5:
            return {self.random.choice(NAMES): self.value(left - 1) for _ in range(self.random.randrange(4))}
        return self.random.choice([None, None, True, False, 0, 1, -7, "", "a", 'b"\\'])

    def altered(self, value):
        if self.random.random() < 0.15:
            return self.value(2)
        if isinstance(value, list):
            kept = [self.altered(inner) for inner in value]
            return self.random.choice([kept, kept, kept[:-1], kept[1:], kept + [5], kept + [None, []]])
        if isinstance(value, dict):
            kept = {name: self.altered(value[name]) for name in value if self.random.random() < 0.8}
            return {**kept, "new": 1} if self.random.random() < 0.3 else kept
        return value

    def row_near(self, value):
        """A place in the value, or one that lies just outside of it."""
        row = self.random.choice(list(places_in(value)))
        there = look(value, row)
        if self.random.random() < 0.5:
            return row
        if isinstance(there, list) and self.random.random() < 0.8:
            return row + [len(there) + self.random.choice([0, 0, 0, 1])]
        keys = [0, 0, 1, *NAMES] if there is None else [0, 1, *NAMES, *NAMES]
        return row + [self.random.choice(keys) for _ in range(self.random.choice([1, 1, 1, 1, 2]))]

    def change(self, value):
        change = {"at": self.row_near(value)}
        there = look(value, change["at"])
        if there is not MISSING or self.random.random() < 0.03:
            change["was"] = None if there is MISSING else there
        if self.random.random() < 0.06:
            change["was"] = self.value(1)
        if self.random.random() < 0.03:
            change.pop("was", None)
        if "was" not in change or self.random.random() < 0.6:
            change["is"] = self.value(2)
        if self.random.random() < 0.03:
            change.pop("is", None)
        return change

    def changes(self, value):
        """Each one leans on those ahead of it, as long as they can be applied."""
        made = []
        for _ in range(self.random.choice([0, 1, 1, 2, 2, 3, 4, 6])):
            made.append(self.change(value))
            after = change_once(copy.deepcopy(value), copy.deepcopy(made[-1]))
            value = value if after is MISSING else after
        return made
