"""Reads a row of bytes as a program: the part that the whole of it is."""

from valuetwigs.contexts import LEVELS, Parser
from valuetwigs.kinds import WORDS, bytes_of, make_list, make_number, make_record, make_text, make_word
from valuetwigs.parts import Part
from valuetwigs.tokens import NoProgram, read_tokens

MOST_BYTES_OF_PROGRAMS = 4096

PLAIN_WORDS = ("empty", "error", "not", "length", "keys", "kind", "sort", "form", "value")
ASKING_WORDS = ("select", "path", "del", "first", "has")


def literal(value):
    return Part("literal", (), value)


def name_key(name):
    return make_text(bytes_of(name))


# What may begin a prim. Each is called with the token that it began with,
# which is taken already.

def start_dot(parser, token):
    parser.put_operand(Part("dot", (), None))


def start_field(parser, token):
    parser.put_operand(Part("field", (Part("dot", (), None),), name_key(token.held)))


def start_number(parser, token):
    parser.put_operand(literal(make_number(token.held)))


def start_text(parser, token):
    parser.put_operand(literal(make_text(token.held)))


def start_variable(parser, token):
    parser.put_operand(Part("variable", (), token.held))


def start_value_word(parser, token):
    parser.put_operand(literal(make_word(WORDS.index(token.kind))))


def start_minus(parser, token):
    parser.open_context("minus", None)


def start_group(parser, token):
    parser.open_context("(", None)


def start_list(parser, token):
    if parser.take_if("]"):
        parser.put_operand(literal(make_list([])))
    else:
        parser.open_context("[", None)


def start_record(parser, token):
    if parser.take_if("}"):
        parser.put_operand(literal(make_record([])))
    else:
        parser.open_context("{", None)
        read_field_name(parser)


def start_if(parser, token):
    parser.open_context("if", None)


def start_let(parser, token):
    name = parser.expect("variable").held
    parser.expect("=")
    parser.open_context("let", name)


def start_fold(parser, token):
    parser.expect("(")
    parser.open_context("fold", None)


def start_word(parser, token):
    if token.held in PLAIN_WORDS:
        parser.put_operand(Part(token.held, (), None))
    elif token.held in ASKING_WORDS:
        parser.expect("(")
        parser.open_context("word", token.held)
    else:
        raise NoProgram()


STARTS = {
    ".": start_dot, "field": start_field, "number": start_number, "text": start_text, "variable": start_variable,
    "null": start_value_word, "true": start_value_word, "false": start_value_word, "-": start_minus,
    "(": start_group, "[": start_list, "{": start_record, "if": start_if, "let": start_let, "fold": start_fold,
    "name": start_word,
}


def read_prim(parser):
    token = parser.take()
    if token.kind not in STARTS:
        raise NoProgram()
    start = STARTS[token.kind]
    start(parser, token)


def read_field_name(parser):
    token = parser.take()
    if token.kind == "(":
        parser.open_context("field name", None)
        return
    if token.kind == "name":
        name = name_key(token.held)
    elif token.kind == "text":
        name = make_text(token.held)
    else:
        raise NoProgram()
    take_field_name(parser, literal(name))


def take_field_name(parser, part):
    parser.expect(":")
    parser.context().sections.append(part)
    parser.want_operand()


# What may stand behind a prim, within the same post.

def read_suffix(parser):
    token = parser.take()
    if token.kind == "field":
        parser.put_operand(Part("field", (parser.take_operand(),), name_key(token.held)))
    elif token.kind == "?":
        parser.put_operand(Part("try", (parser.take_operand(),), None))
    elif parser.take_if("]"):
        parser.put_operand(Part("each", (parser.take_operand(),), None))
    else:
        parser.open_context("key", None)


# The ends of what is open: each takes the token that has to stand there, and
# goes on to the next section or ends the context.

def next_section(parser, kind):
    context = parser.context()
    context.end_section()
    context.kind = kind
    parser.want_operand()


def end_as(parser, kind):
    ended = parser.end_context()
    parser.put_operand(Part(kind, tuple(ended.sections), ended.held))


def end_group(parser):
    parser.expect(")")
    parser.put_operand(parser.end_context().sections[0])


def end_list(parser):
    parser.expect("]")
    end_as(parser, "list")


def end_key(parser):
    parser.expect("]")
    key = parser.end_context().sections[0]
    parser.put_operand(Part("at", (parser.take_operand(), key), None))


def end_field_name(parser):
    parser.expect(")")
    take_field_name(parser, parser.end_context().sections[0])


def end_field(parser):
    if parser.take_if(","):
        parser.context().end_section()
        read_field_name(parser)
    else:
        parser.expect("}")
        parser.put_operand(record_of(parser.end_context().sections))


# Names and values stand in turn in the sections.
def record_of(sections):
    part = literal(make_record([]))
    for place in range(len(sections) - 2, -1, -2):
        part = Part("pair", (sections[place], sections[place + 1], part), None)
    return part


def end_if(parser):
    parser.expect("then")
    next_section(parser, "then")


def end_then(parser):
    parser.expect("else")
    next_section(parser, "else")


def end_else(parser):
    parser.expect("end")
    end_as(parser, "if")


def end_let(parser):
    parser.expect("in")
    next_section(parser, "in")


# A let has no sign at its end: it ends where what stands there can't go on.
def end_in(parser):
    end_as(parser, "let")


def end_minus(parser):
    end_as(parser, "minus")


def end_fold_list(parser):
    context = parser.context()
    parser.expect(";")
    context.held = parser.expect("variable").held
    parser.expect(";")
    next_section(parser, "fold start")


def end_fold_start(parser):
    parser.expect(";")
    next_section(parser, "fold step")


def end_fold_step(parser):
    parser.expect(")")
    end_as(parser, "fold")


def end_word(parser):
    parser.expect(")")
    ended = parser.end_context()
    parser.put_operand(Part(ended.held, tuple(ended.sections), None))


ENDS = {
    "(": end_group, "[": end_list, "key": end_key, "field name": end_field_name, "{": end_field, "if": end_if,
    "then": end_then, "else": end_else, "let": end_let, "in": end_in, "minus": end_minus, "fold": end_fold_list,
    "fold start": end_fold_start, "fold step": end_fold_step, "word": end_word,
}


# The place behind the bracket that closes the one at the place.
def behind_group(tokens, place):
    opened = 0
    while tokens[place].kind != "finish":
        if tokens[place].kind == "(":
            opened += 1
        elif tokens[place].kind == ")":
            opened -= 1
        place += 1
        if opened == 0:
            break
    return place


# A let in a record's value takes the comma behind it, but not one that a
# further field stands behind: only a field's name has a colon behind it.
def is_before_field(tokens, place):
    if tokens[place].kind == "(":
        return tokens[behind_group(tokens, place)].kind == ":"
    if tokens[place].kind in ("name", "text"):
        return tokens[place + 1].kind == ":"
    return False


def goes_on(parser):
    kind = parser.token().kind
    context = parser.context()
    if kind not in LEVELS or context.kind == "minus":
        return False
    if kind == "," and context.kind == "in" and is_before_field(parser.tokens, parser.place + 1):
        return False
    return context.goes_on_with(kind)


def read_behind(parser):
    if parser.token().kind in ("field", "?", "["):
        read_suffix(parser)
    elif goes_on(parser):
        parser.context().operators.append(parser.take().kind)
        parser.want_operand()
    elif parser.context().kind in ENDS:
        end = ENDS[parser.context().kind]
        end(parser)
    else:
        raise NoProgram()


def is_finished(parser):
    return parser.has_operand and len(parser.contexts) == 1 and parser.token().kind == "finish"


def read_program(row):
    if len(row) > MOST_BYTES_OF_PROGRAMS:
        raise NoProgram()
    parser = Parser(read_tokens(row))
    while not is_finished(parser):
        if parser.has_operand:
            read_behind(parser)
        else:
            read_prim(parser)
    return parser.end_context().sections[0]
