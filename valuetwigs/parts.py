"""The parts that a program is made of.

A part has a kind, a text: dot, literal, variable, field (e.n), at (e[i]), each
(e[]), try (e?), list ([e]), pair (a record's field, with those behind it),
minus, if, let, fold; an operator or a word is its own kind.
"""


# The parts within it stand in the order in which they are written, but of a
# pair the fields behind it come last. It holds a literal's value, a field's
# key (a value) or a name (a text of the program's own), else None.
class Part:

    def __init__(self, kind, inner, held):
        self.kind = kind
        self.inner = inner
        self.held = held
