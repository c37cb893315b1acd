"""What the tests of run share: programs and values as texts, and what is given as a list of forms."""

import unittest

from valuetwigs.twigs import run

ENOUGH = 10000


def row_of(text):
    return list(text.encode("latin-1"))


def answer(program, value="null", turns=ENOUGH):
    return run(turns, row_of(program), row_of(value))


class RunCase(unittest.TestCase):

    def ends(self, end, program, value, given, turns=ENOUGH):
        expected = "".join(form + "\n" for form in given)
        self.assertEqual(answer(program, value, turns), [end] + row_of(expected), (program, value[:80], turns))

    def gives(self, program, value, *given):
        self.ends(0, program, value, given)

    def stops(self, end, program, value="null", *given):
        self.ends(end, program, value, given)

    def refuses(self, *programs):
        for program in programs:
            self.assertEqual(answer(program), [-1], program)

    def takes(self, *programs):
        """Whatever they give, they are programs."""
        for program in programs:
            self.assertGreaterEqual(answer(program)[0], 0, program)

    def same(self, program, other, value="null"):
        """Both are read as the same parts: with whatever turns they answer the same."""
        for turns in list(range(40)) + [ENOUGH]:
            self.assertEqual(answer(program, value, turns), answer(other, value, turns), (program, other, turns))

    def costs(self, turns, program, value="null"):
        """It is done, or stops by an error, with just so many turns, and for want of turns with any fewer."""
        self.assertNotEqual(answer(program, value, turns)[0], 8, (program, turns))
        self.assertEqual(answer(program, value, turns), answer(program, value), program)
        for fewer in range(turns):
            self.assertEqual(answer(program, value, fewer)[0], 8, (program, fewer))
