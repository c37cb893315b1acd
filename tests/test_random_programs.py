"""run, compared with another way of working programs out, on many made-up programs; the same ones each time."""

import random
import unittest

import model

from valuetwigs.twigs import run

VALUES = ("null", "true", "false", "0", "3", "-2", '""', '"a"', '"ab"', "[]", "[1,2]", "[3,null,1]", "{}", '{"a":1}',
          '{"a":null,"b":[1,{"a":2}]}', '[[1],[2,[3]]]', '{"a":{"b":{"a":5}},"b":"a"}', '["a",0,{"b":false}]',
          '[{"a":1,"b":2},{"a":3},null]', "9007199254740991", '"[1, -2]"')

LITERALS = ("0", "1", "2", "3", "7", '"a"', '"b"', '""', "null", "true", "false", "9007199254740991", '"{}"', '"\\""')

# Prims that seldom stop by an error 1, or that stop by another one.
STEADY = ("(.a?//1)", "(.[]?)", "[.[]?]", "(length?//2)", "form", "kind", "(keys?//[])", "(.b?)", "[1,2]", "{a:1}",
          "(1,2)", "(2,empty,3)", "(1,null,false)", '{b:(1,2),a:"x"}', "[[1],2]", "(1,error)?", "[.]", "{a:.}", "(form|value)")
STOPPING = ("(1/0)", "(7%0)", "(9007199254740991+1)", "(.|=empty)", "fold(1,2;$x;0;empty)", "([]|.[2]=1)", "(1,2,error)",
            "(3|.a=1)", "[[1],2][0][0].a", "path(1)", "(null|.[1]|=2)", "($z)", "([1]|(.[0],.[0].a)|=1)", "{(1):2}")

SHAPES = ("(PIPE)", "[PIPE]", "-POST", "{FIELDS}", "{FIELDS}", "if PIPE then PIPE else PIPE end", "let $x=PIPE in PIPE",
          "let $y = PIPE in PIPE", "fold(PIPE;$x;PIPE;PIPE)", "fold(.[]?;$x;PIPE;PIPE)", "select(PIPE)", "path(PIPE)",
          "del(PIPE)", "first(PIPE)", "has(PIPE)", "path(PLACES)", "del(PLACES)", "(PLACES=NEW)", "(PLACES|=NEW)")

COUNT = 2000


class Maker:
    """Makes programs by going down the grammar at random; the less is left the plainer is what it makes."""

    def __init__(self, seed):
        self.random = random.Random(seed)

    def pick(self, *choices):
        return self.random.choice(choices)

    def chain(self, left, inner, signs, most):
        text = inner(left)
        for _ in range(self.pick(*[0] * (8 if left > 0 else 20), *range(1, most + 1))):
            text += self.pick("", " ") + self.pick(*signs) + self.pick("", " ") + inner(left - 1)
        return text

    def pipe(self, left):
        return self.chain(left, self.both, ["|"], 2)

    def both(self, left):
        return self.chain(left, self.alt, [","], 2)

    def alt(self, left):
        return self.chain(left, self.put, ["//"], 2)

    def put(self, left):
        return self.chain(left, self.logic, ["=", "|="], 1)

    def logic(self, left):
        return self.chain(left, self.cmp, [" or ", " and "], 2)

    def cmp(self, left):
        return self.chain(left, self.sum, ["==", "!=", "<", "<=", ">", ">="], 1)

    def sum(self, left):
        return self.chain(left, self.term, ["+", "-"], 2)

    def term(self, left):
        return self.chain(left, self.post, ["*", "/", "%"], 1)

    def post(self, left):
        text = self.prim(left)
        for _ in range(self.pick(0, 0, 0, 0, 0, 0, 0, 1, 1, 2)):
            suffix = self.pick(".a", ".b", " .a", "[]", "[]", "?", "[0]", "[1]", '["a"]', "[")
            text += "[" + (self.pipe(left - 2) if left > 0 else "0,1") + "]" if suffix == "[" else suffix
        return text

    def prim(self, left):
        if left <= 0:
            return self.pick(".", ".", ".a", ".b", "$x", *LITERALS, *LITERALS, "empty", "error", "not", "length", "keys",
                             "kind", "sort", "form", "value", "[]", "{}", ".[]")
        made = self.pick(*[self.prim_alone] * 10, *[self.prim_around] * 10, self.prim_that_stops)
        return made(left)

    def prim_alone(self, left):
        return self.pick(self.prim(0), self.pick(*STEADY), self.pick(*STEADY))

    def prim_that_stops(self, left):
        return self.pick(*STOPPING)

    def prim_around(self, left):
        shape = self.pick(*SHAPES)
        while "PIPE" in shape:
            shape = shape.replace("PIPE", self.pipe(left - 2), 1)
        return shape.replace("POST", self.post(left - 2)).replace("FIELDS", self.fields(left - 2)).replace(
            "PLACES", self.places(3)).replace("NEW", self.logic(left - 2))

    def places(self, left):
        """Programs that can mostly be asked for places."""
        if left <= 0:
            return self.pick(".", ".a", ".b", ".[]", ".[0]", ".[1]", '.["b"]', ".a[]", ".[].a", ".a.b", ".[1,0]", "empty")
        inner, other = self.places(left - 1), self.places(left - 2)
        return self.pick(inner, inner + "|" + other, "(" + inner + "," + other + ")", "(" + inner + "//" + other + ")",
                         "(" + inner + ")?", "(" + inner + ")[]", "(" + inner + ").b", "(" + inner + ")[" + other + "]",
                         "first(" + inner + ")", "(" + inner + "|select(" + other + "))", "(" + inner + ",error)?",
                         "(if " + other + " then " + inner + " else " + other + " end)",
                         "(let $x = " + other + " in " + inner + ")")

    def fields(self, left):
        names = ("a", "b", '"a"', '"c d"', "length", "(" + self.pipe(left - 2) + ")", '("b","c")')
        return ",".join(self.pick(*names) + ":" + self.alt(left - 2) for _ in range(self.pick(1, 1, 2, 2, 3)))

    def spoilt(self, text):
        place = self.random.randrange(len(text) + 1)
        return self.pick(text[:place] + text[place + 1:],
                         text[:place] + self.pick(*"()[]{}|,=$.?-+:; a1\"") + text[place:])


class RandomPrograms(unittest.TestCase):

    def compare(self, turns, program, value):
        found = run(turns, list(program.encode()), list(value.encode()))
        self.assertEqual(found, model.run(turns, program, value), (turns, program, value))
        return found

    def test_programs(self):
        maker = Maker(20)
        ends = {}
        for _ in range(COUNT):
            program = maker.pick(maker.pipe, maker.pipe, maker.places)(maker.pick(2, 3, 4, 5))
            found = self.compare(maker.pick(10000, 10000, 40), program, maker.pick(*VALUES))
            ends[found[0]] = ends.get(found[0], 0) + 1
        # So that the programs do come to all their ends, and not all to one.
        for end in range(9):
            self.assertGreater(ends.get(end, 0), COUNT // 1000, ends)
        self.assertGreater(ends[0], COUNT // 4, ends)

    def test_few_turns(self):
        maker = Maker(30)
        for _ in range(COUNT // 30):
            program = maker.pipe(3)
            value = maker.pick(*VALUES)
            for turns in range(60):
                if self.compare(turns, program, value)[0] != 8:
                    break

    def test_spoilt_programs(self):
        maker = Maker(40)
        refused = 0
        for _ in range(COUNT):
            program = maker.spoilt(maker.pipe(maker.pick(1, 2, 3)))
            refused += self.compare(200, program, maker.pick(*VALUES)) == [-1]
        self.assertGreater(refused, COUNT // 10)
        self.assertLess(refused, COUNT)


if __name__ == "__main__":
    unittest.main()
