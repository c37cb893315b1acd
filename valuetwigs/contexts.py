"""What is open while a program is read: brackets, minuses, ifs, lets and their like.

They are kept in a row, so that a loop goes through a program however long and
deep it is. Each keeps the operators that still wait for what is behind them.
"""

from valuetwigs.parts import Part
from valuetwigs.tokens import NoProgram

MOST_DEPTH_OF_PARTS = 40

# The looser an operator binds the lower is its level.
LEVELS = {
    "|": 1,
    ",": 2,
    "//": 3,
    "=": 4, "|=": 4,
    "or": 5,
    "and": 6,
    "==": 7, "!=": 7, "<": 7, "<=": 7, ">": 7, ">=": 7,
    "+": 8, "-": 8,
    "*": 9, "/": 9, "rest": 9,
}

LEVELS_FROM_THE_LEFT = (8, 9)
LEVELS_TAKEN_ONCE = (4, 7)

# A record's values are written without the operators below this level.
LEVEL_IN_RECORDS = 3


class Context:

    def __init__(self, kind, held):
        self.kind = kind
        self.held = held
        # The parts of it that are read already, where it has several.
        self.sections = []
        self.operands = []
        self.operators = []

    def join_last(self):
        behind = self.operands.pop()
        front = self.operands.pop()
        self.operands.append(Part(self.operators.pop(), (front, behind), None))

    def last_level(self):
        return LEVELS[self.operators[-1]] if len(self.operators) > 0 else 0

    # Whether the operator goes on with what is open here. What binds closer is
    # joined by then; that is right if it doesn't go on, too, since then all is.
    def goes_on_with(self, operator):
        level = LEVELS[operator]
        if self.kind == "{" and level < LEVEL_IN_RECORDS:
            return False
        while self.last_level() > level:
            self.join_last()
        if level in LEVELS_FROM_THE_LEFT and self.last_level() == level:
            self.join_last()
        return not (level in LEVELS_TAKEN_ONCE and self.last_level() == level)

    def end_section(self):
        while len(self.operators) > 0:
            self.join_last()
        self.sections.append(self.operands.pop())


class Parser:

    def __init__(self, tokens):
        self.tokens = tokens
        self.place = 0
        self.contexts = [Context("whole", None)]
        self.has_operand = False

    def token(self):
        return self.tokens[self.place]

    def take(self):
        token = self.token()
        self.place += 1
        return token

    def take_if(self, kind):
        if self.token().kind != kind:
            return False
        self.place += 1
        return True

    def expect(self, kind):
        token = self.take()
        if token.kind != kind:
            raise NoProgram()
        return token

    def context(self):
        return self.contexts[-1]

    def want_operand(self):
        self.has_operand = False

    def put_operand(self, part):
        self.context().operands.append(part)
        self.has_operand = True

    def take_operand(self):
        return self.context().operands.pop()

    # As many are open as what stands there is deep; the whole isn't counted.
    def open_context(self, kind, held):
        if len(self.contexts) > MOST_DEPTH_OF_PARTS:
            raise NoProgram()
        self.contexts.append(Context(kind, held))
        self.want_operand()

    def end_context(self):
        ended = self.contexts.pop()
        ended.end_section()
        return ended
