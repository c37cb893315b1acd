"""Writes a value's form.

What is still to be written waits in a row, so that a loop goes through it
however deep the value is nested.
"""

from valuetwigs.kinds import LIST, NUMBER, RECORD, TEXT, WORDS, bytes_of
from valuetwigs.signs import BACKSLASH, COLON, COMMA, LIST_END, LIST_START, QUOTE, RECORD_END, RECORD_START, ROW_END

# Stands in a kind's place, for bytes that are written as they are.
AS_IT_IS = 7


def written_text(text):
    row = [QUOTE]
    for sign in text:
        if sign == QUOTE or sign == BACKSLASH:
            row.append(BACKSLASH)
        row.append(sign)
    row.append(QUOTE)
    return row


def pieces_of_list(listed):
    pieces = [(AS_IT_IS, (LIST_START,))]
    for place, value in enumerate(listed):
        if place > 0:
            pieces.append((AS_IT_IS, (COMMA,)))
        pieces.append(value)
    pieces.append((AS_IT_IS, (LIST_END,)))
    return pieces


def pieces_of_record(fields):
    pieces = [(AS_IT_IS, (RECORD_START,))]
    for place, field in enumerate(fields):
        if place > 0:
            pieces.append((AS_IT_IS, (COMMA,)))
        pieces.append((TEXT, field[0]))
        pieces.append((AS_IT_IS, (COLON,)))
        pieces.append(field[1])
    pieces.append((AS_IT_IS, (RECORD_END,)))
    return pieces


def written_single(kind, held):
    if kind == AS_IT_IS:
        return list(held)
    if kind == TEXT:
        return written_text(held)
    if kind == NUMBER:
        return bytes_of(str(held))
    return bytes_of(WORDS[kind])


def written(value):
    row = []
    waiting = [value]
    while len(waiting) > 0:
        piece = waiting.pop()
        if piece[0] == LIST:
            waiting.extend(list(reversed(pieces_of_list(piece[1]))))
        elif piece[0] == RECORD:
            waiting.extend(list(reversed(pieces_of_record(piece[1]))))
        else:
            row.extend(written_single(piece[0], piece[1]))
    return row


# Each value in its form, with a row's end behind it. Once there are more bytes
# than are wanted the rest isn't written.
def written_lines(values, most):
    row = []
    for value in values:
        row.extend(written(value))
        row.append(ROW_END)
        if len(row) > most:
            break
    return row
