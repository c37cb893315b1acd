"""Programs worked out another way: by recursion over Python's own values, straight from the document's words.

It reads a program by trying every derivation of the grammar, the longest part first, and answers what run answers.
Values are None, True, False, int, str, list and dict. It is made for short programs only.
"""

import json
import re

GAP = r"[ \t\n\r]*"
TOKEN = re.compile(r'''(?P<number>0(?![0-9])|[1-9][0-9]{0,15}(?![0-9]))(?![A-Za-z_])
    |(?P<text>"(?:[ !#-\[\]-~]|\\["\\])*")
    |(?P<field>\.[A-Za-z_][A-Za-z_0-9]{0,31}(?![A-Za-z_0-9]))
    |(?P<dollar>\$[A-Za-z_][A-Za-z_0-9]{0,31}(?![A-Za-z_0-9]))
    |(?P<name>[A-Za-z_][A-Za-z_0-9]{0,31}(?![A-Za-z_0-9]))
    |(?P<sign>\|=|//|==|!=|<=|>=|\.(?![A-Za-z_])|[\[\]{}():;,|=<>+\-*/%?])''', re.VERBOSE)

RESERVED = "if then else end let in and or null true false fold".split()
WORDS = "empty error not length keys kind sort form value".split()
WORDS1 = "select path del first has".split()


class NoProgram(Exception):
    pass


class NoValue(Exception):
    pass


class Stop(Exception):

    def __init__(self, number):
        self.number = number


def tokens_of(text):
    tokens = []
    place = re.match(GAP, text).end()
    while place < len(text):
        found = TOKEN.match(text, place)
        if found is None:
            raise NoProgram()
        tokens.append((found.lastgroup, found.group()))
        place = re.compile(GAP).match(text, found.end()).end()
    return tokens


def unescaped(token):
    return re.sub(r'\\(["\\])', r"\1", token[1:-1])


class Derivations:
    """All that each rule can derive from each token on: nodes by where they end, those found first kept."""

    def __init__(self, tokens):
        self.tokens = tokens
        self.known = {}

    def is_at(self, place, *words):
        return place < len(self.tokens) and self.tokens[place][1] in words and self.tokens[place][0] in ("sign", "name")

    def sort_at(self, place):
        return self.tokens[place][0] if place < len(self.tokens) else None

    def of(self, rule, place, deep):
        if deep > 40:
            return []
        key = (rule, place, deep)
        if key not in self.known:
            found = {}
            for node, end in getattr(self, rule)(place, deep):
                found.setdefault(end, node)
            self.known[key] = [(node, end) for end, node in found.items()]
        return self.known[key]

    def right(self, rule, inner, words, place, deep):
        for front, end in self.of(inner, place, deep):
            if self.is_at(end, *words):
                for behind, last in self.of(rule, end + 1, deep):
                    yield (self.tokens[end][1], front, behind), last
            yield front, end

    def left(self, node, end, inner, words, deep):
        if self.is_at(end, *words):
            for behind, last in self.of(inner, end + 1, deep):
                yield from self.left((self.tokens[end][1], node, behind), last, inner, words, deep)
        yield node, end

    def pipe(self, place, deep):
        return self.right("pipe", "both", ["|"], place, deep)

    def both(self, place, deep):
        return self.right("both", "alt", [","], place, deep)

    def alt(self, place, deep):
        return self.right("alt", "put", ["//"], place, deep)

    def put(self, place, deep):
        return self.right("orr", "orr_of_put", ["=", "|="], place, deep)

    def orr_of_put(self, place, deep):
        return self.orr(place, deep)

    def orr(self, place, deep):
        return self.right("orr", "andd", ["or"], place, deep)

    def andd(self, place, deep):
        return self.right("andd", "cmp", ["and"], place, deep)

    def cmp(self, place, deep):
        return self.right("sum", "sum", ["==", "!=", "<", "<=", ">", ">="], place, deep)

    def sum(self, place, deep):
        for node, end in self.of("term", place, deep):
            yield from self.left(node, end, "term", "+-", deep)

    def term(self, place, deep):
        for node, end in self.of("post", place, deep):
            yield from self.left(node, end, "post", "*/%", deep)

    def post(self, place, deep):
        for node, end in self.of("prim", place, deep):
            yield from self.suffixes(node, end, deep)

    def suffixes(self, node, place, deep):
        if self.sort_at(place) == "field":
            yield from self.suffixes(("field", node, self.tokens[place][1][1:]), place + 1, deep)
        if self.is_at(place, "?"):
            yield from self.suffixes(("?", node), place + 1, deep)
        if self.is_at(place, "["):
            if self.is_at(place + 1, "]"):
                yield from self.suffixes(("each", node), place + 2, deep)
            for key, end in self.row(place + 1, deep + 1, [("pipe", "]")]):
                yield from self.suffixes(("at", node) + key, end, deep)
        yield node, place

    def row(self, place, deep, wanted):
        """Nodes of rules, each with a word behind it (or none)."""
        if not wanted:
            yield (), place
            return
        rule, word = wanted[0]
        for node, end in self.of(rule, place, deep):
            if word is None or self.is_at(end, word):
                for more, last in self.row(end + (word is not None), deep, wanted[1:]):
                    yield (node,) + more, last

    def prim(self, place, deep):
        sort = self.sort_at(place)
        word = self.tokens[place][1] if sort else ""
        if sort == "field":
            yield ("field", (".",), word[1:]), place + 1
        elif sort == "number" and int(word) < 2 ** 53:
            yield ("literal", int(word)), place + 1
        elif sort == "text":
            yield ("literal", unescaped(word)), place + 1
        elif sort == "dollar":
            yield ("dollar", word), place + 1
        elif sort in ("name", "sign"):
            yield from self.prim_of_word(word, place, deep)

    def prim_of_word(self, word, place, deep):
        if word == ".":
            yield (".",), place + 1
        elif word in ("null", "true", "false"):
            yield ("literal", json.loads(word)), place + 1
        elif word in WORDS:
            yield (word,), place + 1
        elif word == "-":
            for node, end in self.of("post", place + 1, deep + 1):
                yield ("minus", node), end
        elif word == "[" and self.is_at(place + 1, "]"):
            yield ("literal", []), place + 2
        elif word == "{" and self.is_at(place + 1, "}"):
            yield ("literal", {}), place + 2
        elif word == "{":
            for fields, end in self.of("fields", place + 1, deep + 1):
                if self.is_at(end, "}"):
                    yield fields, end + 1
        else:
            yield from self.prim_with_parts(word, place, deep)

    def prim_with_parts(self, word, place, deep):
        if word == "(":
            for parts, end in self.row(place + 1, deep + 1, [("pipe", ")")]):
                yield parts[0], end
        elif word == "[":
            for parts, end in self.row(place + 1, deep + 1, [("pipe", "]")]):
                yield ("list",) + parts, end
        elif word == "if":
            for parts, end in self.row(place + 1, deep + 1, [("pipe", "then"), ("pipe", "else"), ("pipe", "end")]):
                yield ("if",) + parts, end
        elif word in WORDS1 and self.is_at(place + 1, "("):
            for parts, end in self.row(place + 2, deep + 1, [("pipe", ")")]):
                yield (word,) + parts, end
        elif word == "let" and self.sort_at(place + 1) == "dollar" and self.is_at(place + 2, "="):
            for parts, end in self.row(place + 3, deep + 1, [("pipe", "in"), ("pipe", None)]):
                yield ("let", self.tokens[place + 1][1]) + parts, end
        elif word == "fold" and self.is_at(place + 1, "("):
            for parts, end in self.row(place + 2, deep + 1, [("pipe", ";")]):
                if self.sort_at(end) == "dollar" and self.is_at(end + 1, ";"):
                    for more, last in self.row(end + 2, deep + 1, [("pipe", ";"), ("pipe", ")")]):
                        yield ("fold", self.tokens[end][1]) + parts + more, last

    def fields(self, place, deep):
        for name, end in self.field_names(place, deep):
            if self.is_at(end, ":"):
                for value, last in self.of("alt", end + 1, deep):
                    if self.is_at(last, ","):
                        for rest, final in self.of("fields", last + 1, deep):
                            yield ("pair", name, value, rest), final
                    yield ("pair", name, value, ("literal", {})), last

    def field_names(self, place, deep):
        sort = self.sort_at(place)
        if sort == "name" and self.tokens[place][1] not in RESERVED:
            yield ("literal", self.tokens[place][1]), place + 1
        elif sort == "text":
            yield ("literal", unescaped(self.tokens[place][1])), place + 1
        elif self.is_at(place, "("):
            for parts, end in self.row(place + 1, deep + 1, [("pipe", ")")]):
                yield parts[0], end


def read_program(text):
    tokens = tokens_of(text)
    if len(text) > 4096:
        raise NoProgram()
    for node, end in Derivations(tokens).of("pipe", 0, 0):
        if end == len(tokens):
            return node
    raise NoProgram()


def sort_key(value):
    if value is None or value is False or value is True:
        return ([None, False, True].index(value),)
    if isinstance(value, int):
        return (3, value)
    if isinstance(value, str):
        return (4, value)
    if isinstance(value, list):
        return (5, [sort_key(inner) for inner in value])
    return (6, [(name, sort_key(value[name])) for name in sorted(value)])


def inner_of(value):
    return list(value.values()) if isinstance(value, dict) else value if isinstance(value, list) else []


def size_of(value):
    texts = [value] if isinstance(value, str) else list(value) if isinstance(value, dict) else []
    return 1 + sum(map(len, texts)) + sum(map(size_of, inner_of(value)))


def depth_of(value):
    return 1 + max(map(depth_of, inner_of(value)), default=0) if isinstance(value, (list, dict)) else 0


def form_of(value):
    return json.dumps(value, sort_keys=True, separators=(",", ":"))


def fields_once(pairs):
    if len(dict(pairs)) != len(pairs):
        raise NoValue()
    return dict(pairs)


def value_of(text):
    text = re.sub(r'("(?:[^"\\]|\\.)*")|-[ \t\n\r]+(?=[0-9])', lambda found: found.group(1) or "-", text)
    text = re.sub(r'("(?:[^"\\]|\\.)*")|[^][{},:"0-9a-z \t\n\r-]', lambda found: found.group(1) or "!", text)
    if re.search(r"\\[^\"\\]", text.replace("\\\\", "")) or any(not 32 <= ord(sign) <= 126 for sign in "".join(
            re.findall(r'"(?:[^"\\]|\\.)*"', text))):
        raise NoValue()
    try:
        value = json.loads(text, object_pairs_hook=fields_once, parse_int=fit_digits)
    except json.JSONDecodeError:
        raise NoValue() from None
    if depth_of(value) > 40:
        raise NoValue()
    return value


def fit_digits(digits):
    if digits == "-0" or abs(int(digits)) >= 2 ** 53:
        raise NoValue()
    return int(digits)


def is_number(value):
    return isinstance(value, int) and not isinstance(value, bool)


def is_key(value):
    return isinstance(value, str) or (is_number(value) and value >= 0)


def holds(value):
    return value is not None and value is not False


def same(one, other):
    return sort_key(one) == sort_key(other)


def at_key(value, key):
    if value is None:
        return None
    if isinstance(value, dict) and isinstance(key, str):
        return value.get(key)
    if isinstance(value, list) and is_number(key):
        return value[key] if key < len(value) else None
    raise Stop(1)


def put_at(value, row, new):
    if not row:
        return new
    key, rest = row[0], row[1:]
    if isinstance(key, str) and (value is None or isinstance(value, dict)):
        return {**(value or {}), key: put_at((value or {}).get(key), rest, new)}
    if is_number(key) and (value is None or isinstance(value, list)) and key <= len(value or []):
        listed = list(value or [])
        inner = put_at(listed[key] if key < len(listed) else None, rest, new)
        return listed[:key] + [inner] + listed[key + 1:]
    raise Stop(6)


def without(value, rows):
    """All rows at once: what remains is built anew, so that their order can't matter."""
    if [] in rows:
        return None
    if isinstance(value, dict):
        return {name: without(value[name], [row[1:] for row in rows if row[0] == name])
                for name in value if [name] not in rows}
    if isinstance(value, list):
        return [without(inner, [row[1:] for row in rows if row[0] == place])
                for place, inner in enumerate(value) if [place] not in rows]
    return value


def fit(number):
    if abs(number) >= 2 ** 53:
        raise Stop(2)
    return number


def divided(front, behind):
    if behind == 0:
        raise Stop(3)
    quotient = abs(front) // abs(behind) * (1 if (front < 0) == (behind < 0) else -1)
    return quotient, front - quotient * behind


COMPARISONS = {
    "==": lambda x, y: x == y, "!=": lambda x, y: x != y, "<": lambda x, y: x < y, "<=": lambda x, y: x <= y,
    ">": lambda x, y: x > y, ">=": lambda x, y: x >= y,
}

ARITHMETIC = {
    "+": lambda x, y: x + y, "-": lambda x, y: x - y, "*": lambda x, y: x * y,
    "/": lambda x, y: divided(x, y)[0], "%": lambda x, y: divided(x, y)[1],
}


def operated(sign, front, behind):
    if sign in COMPARISONS:
        return COMPARISONS[sign](sort_key(front), sort_key(behind))
    if sign == "+" and (front is None or behind is None):
        return behind if front is None else front
    if is_number(front) and is_number(behind):
        return fit(ARITHMETIC[sign](front, behind))
    if sign == "+" and type(front) is type(behind) and isinstance(front, (str, list)):
        return front + behind
    if sign == "+" and isinstance(front, dict) and isinstance(behind, dict):
        return {**front, **behind}
    if sign == "-" and isinstance(front, list) and isinstance(behind, list):
        return [value for value in front if not any(same(value, other) for other in behind)]
    raise Stop(1)


def made_by_word(word, value):
    if word == "not":
        return not holds(value)
    if word == "kind":
        return ("null", "truth", "truth", "number", "text", "list", "record")[sort_key(value)[0]]
    if word == "form":
        return form_of(value)
    if word == "length" and not isinstance(value, bool):
        return 0 if value is None else abs(value) if is_number(value) else len(value)
    if word == "keys" and isinstance(value, (list, dict)):
        return sorted(value) if isinstance(value, dict) else list(range(len(value)))
    if word == "sort" and isinstance(value, list):
        return sorted(value, key=sort_key)
    if word == "value" and isinstance(value, str):
        try:
            return value_of(value)
        except NoValue:
            raise Stop(1) from None
    raise Stop(1)


NO_TURNS = 8


class Run:
    """Each rule gives its values into a list that is handed to it, and raises Stop if it stops."""

    def __init__(self, turns):
        self.turns = turns

    def turn(self):
        if self.turns == 0:
            raise Stop(NO_TURNS)
        self.turns -= 1

    def whole(self, node, there, names):
        """What a part gives and how it ends: 0, or by what it stops. A thing given is a pair of value and row."""
        given = []
        try:
            self.turn()
            getattr(self, RULES.get(node[0], "word"))(node, there, names, given)
        except Stop as stop:
            return given, stop.number
        return given, 0

    def for_each(self, node, there, names, given, second):
        firsts, end = self.whole(node, there, names)
        for first in firsts:
            self.turn()
            second(first)
        if end:
            raise Stop(end)

    def into(self, node, there, names, given):
        more, end = self.whole(node, there, names)
        given.extend(more)
        if end:
            raise Stop(end)

    def all_of(self, node, there, names):
        given, end = self.whole(node, there, names)
        if end:
            raise Stop(end)
        return given

    def first_of(self, node, there, names):
        given, end = self.whole(node, there, names)
        if end == NO_TURNS or (end and not given):
            raise Stop(end)
        return given[:1]

    def one_of(self, node, there, names):
        found = self.first_of(node, there, names)
        if not found:
            raise Stop(5)
        return found[0][0]

    def make(self, value, there, given):
        if there[1] is not None:
            raise Stop(7)
        if size_of(value) > 4096 or depth_of(value) > 40:
            raise Stop(2)
        given.append((value, None))

    def dot(self, node, there, names, given):
        given.append(there)

    def literal(self, node, there, names, given):
        self.make(node[1], there, given)

    def dollar(self, node, there, names, given):
        if node[1] not in names:
            raise Stop(1)
        self.make(names[node[1]], there, given)

    def entry(self, holder, key, given):
        given.append((at_key(holder[0], key), None if holder[1] is None else holder[1] + [key]))

    def field(self, node, there, names, given):
        self.for_each(node[1], there, names, given, lambda holder: self.entry(holder, node[2], given))

    def at(self, node, there, names, given):
        def take(key):
            if not is_key(key[0]):
                raise Stop(1)
            self.for_each(node[1], there, names, given, lambda holder: self.entry(holder, key[0], given))
        self.for_each(node[2], (there[0], None), names, given, take)

    def each(self, node, there, names, given):
        def take(holder):
            if not isinstance(holder[0], (list, dict)):
                raise Stop(1)
            for key in made_by_word("keys", holder[0]):
                self.turn()
                self.entry(holder, key, given)
        self.for_each(node[1], there, names, given, take)

    def attempt(self, node, there, names, given):
        more, end = self.whole(node[1], there, names)
        given.extend(more)
        if end == NO_TURNS:
            raise Stop(end)

    def listed(self, node, there, names, given):
        self.make([value for value, row in self.all_of(node[1], (there[0], None), names)], there, given)

    def pair(self, node, there, names, given):
        plain = (there[0], None)

        def take_record(record):
            def take_name(name):
                if not isinstance(name[0], str):
                    raise Stop(1)
                self.for_each(node[2], plain, names, given, lambda value: self.make(
                    {name[0]: value[0], **record[0]}, there, given))
            self.for_each(node[1], plain, names, given, take_name)
        self.for_each(node[3], plain, names, given, take_record)

    def pipe(self, node, there, names, given):
        self.for_each(node[1], there, names, given, lambda found: self.into(node[2], found, names, given))

    def both(self, node, there, names, given):
        self.into(node[1], there, names, given)
        self.into(node[2], there, names, given)

    def alternative(self, node, there, names, given):
        more, end = self.whole(node[1], there, names)
        given.extend(found for found in more if holds(found[0]))
        if end == NO_TURNS:
            raise Stop(end)
        if not given:
            self.into(node[2], there, names, given)

    def or_and(self, node, there, names, given):
        plain = (there[0], None)

        def take(front):
            if holds(front[0]) == (node[0] == "or"):
                self.make(node[0] == "or", there, given)
            else:
                self.for_each(node[2], plain, names, given, lambda found: self.make(holds(found[0]), there, given))
        self.for_each(node[1], plain, names, given, take)

    def operator(self, node, there, names, given):
        plain = (there[0], None)
        self.for_each(node[1], plain, names, given, lambda front: self.for_each(
            node[2], plain, names, given, lambda behind: self.make(
                operated(node[0], front[0], behind[0]), there, given)))

    def minus(self, node, there, names, given):
        def take(found):
            if not is_number(found[0]):
                raise Stop(1)
            self.make(-found[0], there, given)
        self.for_each(node[1], (there[0], None), names, given, take)

    def choice(self, node, there, names, given):
        self.for_each(node[1], (there[0], None), names, given, lambda found: self.into(
            node[2 if holds(found[0]) else 3], there, names, given))

    def let(self, node, there, names, given):
        self.for_each(node[2], (there[0], None), names, given, lambda found: self.into(
            node[3], there, {**names, node[1]: found[0]}, given))

    def empty(self, node, there, names, given):
        pass

    def error(self, node, there, names, given):
        raise Stop(4)

    def word(self, node, there, names, given):
        self.make(made_by_word(node[0], there[0]), there, given)

    def select(self, node, there, names, given):
        self.for_each(node[1], (there[0], None), names, given, lambda found: given.extend(
            [there] if holds(found[0]) else []))

    def first(self, node, there, names, given):
        given.extend(self.first_of(node[1], there, names))

    def has(self, node, there, names, given):
        def take(key):
            if not is_key(key[0]):
                raise Stop(1)
            in_record = isinstance(there[0], dict) and isinstance(key[0], str) and key[0] in there[0]
            in_list = isinstance(there[0], list) and is_number(key[0]) and key[0] < len(there[0])
            self.make(in_record or in_list, there, given)
        self.for_each(node[1], (there[0], None), names, given, take)

    def no_places(self, there):
        if there[1] is not None:
            raise Stop(7)

    def path(self, node, there, names, given):
        self.no_places(there)
        self.for_each(node[1], (there[0], []), names, given, lambda found: self.make(found[1], there, given))

    def delete(self, node, there, names, given):
        self.no_places(there)
        self.make(without(there[0], [row for value, row in self.all_of(node[1], (there[0], []), names)]), there, given)

    def put(self, node, there, names, given):
        self.no_places(there)

        def take(new):
            value = there[0]
            for found in self.all_of(node[1], (there[0], []), names):
                value = put_at(value, found[1], new[0])
            self.make(value, there, given)
        self.for_each(node[2], there, names, given, take)

    def update(self, node, there, names, given):
        self.no_places(there)
        value = there[0]
        for found in self.all_of(node[1], (there[0], []), names):
            at_place = value
            for key in found[1]:
                at_place = at_key(at_place, key)
            value = put_at(value, found[1], self.one_of(node[2], (at_place, None), names))
            self.make(value, there, [])
        self.make(value, there, given)

    def fold(self, node, there, names, given):
        self.no_places(there)
        listed = self.all_of(node[2], there, names)

        def take(start):
            value = start[0]
            for found in listed:
                self.turn()
                value = self.one_of(node[4], (value, None), {**names, node[1]: found[0]})
            self.make(value, there, given)
        self.for_each(node[3], there, names, given, take)


RULES = {
    ".": "dot", "literal": "literal", "dollar": "dollar", "field": "field", "at": "at", "each": "each", "?": "attempt",
    "list": "listed", "pair": "pair", "|": "pipe", ",": "both", "//": "alternative", "or": "or_and", "and": "or_and",
    "minus": "minus", "if": "choice", "let": "let", "empty": "empty", "error": "error", "select": "select",
    "first": "first", "has": "has", "path": "path", "del": "delete", "=": "put", "|=": "update", "fold": "fold",
    **{sign: "operator" for sign in list(COMPARISONS) + list(ARITHMETIC)},
}


def run(turns, program, value):
    try:
        node = read_program(program)
    except NoProgram:
        return [-1]
    try:
        there = value_of(value)
    except NoValue:
        return [-2]
    if turns > 10000:
        return [-22]
    given, end = Run(turns).whole(node, (there, None), {})
    row = "".join(form_of(found[0]) + "\n" for found in given).encode()
    return [-28] if len(row) > 65536 else [end] + list(row)
