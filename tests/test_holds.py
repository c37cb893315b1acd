"""What holds over the whole program, sentence by sentence, on many made-up values and programs."""

import itertools
import json
import unittest

from change_model import MISSING, ChangeMaker, form_of, look, places_in, row_of
from test_random_programs import VALUES, Maker

from valuetwigs.twigs import apply, back, differ, form, run

ENOUGH = 10000


def text_of(answer):
    return bytes(answer[1:]).decode()


def ran(program, value, turns=ENOUGH):
    """How it ended, and the forms of all that was given."""
    answer = run(turns, row_of(program), row_of(value))
    return answer[0], text_of(answer).split("\n")[:-1]


def program_of(row):
    return "." + "".join("[" + form_of(key) + "]" for key in row)


def is_apart(row, other):
    """Neither lies within the other one."""
    shared = min(len(row), len(other))
    return row[:shared] != other[:shared]


def single_new_place(value, row):
    """A place right behind a list's last one, at a name that a record hasn't, or within null."""
    there = look(value, row)
    if isinstance(there, list):
        return row + [len(there)]
    if isinstance(there, dict):
        return row + ["new"]
    return row + [0] if there is None else row


class AFormReadAgain(unittest.TestCase):

    def is_the_same(self, text):
        first = form(row_of(text))
        self.assertEqual(first[0], 0)
        self.assertEqual(form(first[1:]), first, text)
        self.assertEqual(differ(row_of(text), first[1:]), [0] + row_of("[]"), text)
        self.assertEqual(ran("(form|value)==.", text), (0, ["true"]), text)

    def test_made_up_values(self):
        maker = ChangeMaker(31)
        for _ in range(500):
            value = maker.value(4)
            self.is_the_same(form_of(value))
            self.is_the_same(json.dumps(value, indent=1))

    def test_the_form_is_of_the_same_value(self):
        maker = ChangeMaker(32)
        for _ in range(500):
            value = maker.value(4)
            self.assertEqual(text_of(form(row_of(json.dumps(value, indent=1)))), form_of(value))

    def test_what_programs_give(self):
        maker = Maker(33)
        for _ in range(500):
            for given in ran(maker.pipe(3), maker.pick(*VALUES))[1]:
                if len(given) <= 4096:
                    self.assertEqual(text_of(form(row_of(given))), given)


class WhatIsPut(unittest.TestCase):

    def check(self, value, changed, row, new):
        self.assertEqual(form_of(look(changed, row)), form_of(new), (value, row))
        there = {form_of(other): form_of(look(value, other)) for other in places_in(value) if is_apart(row, other)}
        then = {form_of(other): form_of(look(changed, other)) for other in places_in(changed) if is_apart(row, other)}
        self.assertEqual(there, then, (value, row))

    def samples(self, seed, count):
        maker = ChangeMaker(seed)
        for _ in range(count):
            value = maker.value(3)
            for row in list(places_in(value)):
                for place in (row, single_new_place(value, row)):
                    yield value, place, maker.value(1)

    def test_by_programs(self):
        for value, row, new in self.samples(34, 60):
            for sign in ("=", "|="):
                end, given = ran(program_of(row) + sign + "(" + json.dumps(form_of(new)) + "|value)", form_of(value))
                self.assertEqual((end, len(given)), (0, 1), (value, row))
                self.check(value, json.loads(given[0]), row, new)
                self.assertEqual(ran(program_of(row), given[0]), (0, [form_of(new)]))

    def test_behind_keys_that_are_not_there(self):
        for value, row in (({}, ["a", "b"]), ({"a": 1}, ["b", 0, "c"]), ([1], [1, 0]), (None, [0, "a", 0]), ([{}, None], [1, "x", "y"])):
            for sign in ("=", "|="):
                end, given = ran(program_of(row) + sign + "7", form_of(value))
                self.assertEqual((end, len(given)), (0, 1), (value, row))
                self.assertEqual(look(json.loads(given[0]), row), 7)
                for other in places_in(value):
                    if is_apart(row, other):
                        self.assertEqual(look(json.loads(given[0]), other), look(value, other))

    def test_by_changes(self):
        for value, row, new in self.samples(35, 100):
            there = look(value, row)
            was = {} if there is MISSING else {"was": there}
            answer = apply(row_of(form_of(value)), row_of(json.dumps([{"at": row, "is": new, **was}])))
            self.assertEqual(answer[0], 0, (value, row, new))
            self.check(value, json.loads(text_of(answer)), row, new)

    def test_by_changes_taken_back(self):
        for value, row, new in self.samples(36, 100):
            there = look(value, row)
            now = {} if there is MISSING else {"is": there}
            answer = back(row_of(form_of(value)), row_of(json.dumps([{"at": row, "was": new, **now}])))
            self.assertEqual(answer[0], 0, (value, row, new))
            self.check(value, json.loads(text_of(answer)), row, new)


class Places(unittest.TestCase):

    def looked_at(self, value, row):
        """What lies behind a key that isn't there is null."""
        there = look(value, row)
        return "null" if there is MISSING else form_of(there)

    def test_they_lead_to_what_is_given(self):
        maker = Maker(37)
        counts = {0: 0, 1: 0, 4: 0}
        for _ in range(2000):
            program, value = maker.places(maker.pick(1, 2, 3)), maker.pick(*VALUES)
            asked, rows = ran("path(%s)" % program, value)
            end, given = ran(program, value)
            self.assertEqual(asked, end, (program, value))
            self.assertEqual([self.looked_at(json.loads(value), json.loads(row)) for row in rows], given, (program, value))
            counts[end] = counts.get(end, 0) + 1
        self.assertGreater(counts[0], 500, counts)
        self.assertGreater(counts[1], 100, counts)


class MoreTurns(unittest.TestCase):

    def test_what_was_done_is_the_same(self):
        maker = Maker(38)
        done = 0
        for _ in range(300):
            program, value = maker.pick(maker.pipe(3), maker.places(3)), maker.pick(*VALUES)
            whole = ran(program, value)
            before = []
            for turns in itertools.chain(range(40), range(40, 300, 20), range(300, 10000, 2500)):
                end, given = ran(program, value, turns)
                self.assertEqual(given[:len(before)], before, (program, value, turns))
                self.assertEqual(whole[1][:len(given)], given, (program, value, turns))
                if end != 8:
                    self.assertEqual((end, given), whole, (program, value, turns))
                    done += 1
                before = given
        self.assertGreater(done, 3000)


class Differences(unittest.TestCase):

    def check(self, one, other):
        changes = differ(row_of(one), row_of(other))
        self.assertEqual(apply(row_of(one), changes[1:]), form(row_of(other)), (one, other))
        self.assertEqual(back(row_of(other), changes[1:]), form(row_of(one)), (one, other))
        self.assertEqual(changes == [0] + row_of("[]"), form(row_of(one)) == form(row_of(other)))

    def test_they_lead_there_and_back(self):
        maker = ChangeMaker(39)
        for _ in range(800):
            one = maker.value(4)
            self.check(json.dumps(one), form_of(maker.altered(one)))
            self.check(form_of(one), json.dumps(maker.value(4), indent=1))

    def test_of_what_programs_give(self):
        maker = Maker(40)
        for _ in range(300):
            value = maker.pick(*VALUES)
            for given in ran(maker.pipe(3), value)[1][:5]:
                if len(given) <= 1000:
                    self.check(value, given)


class EachCallByItself(unittest.TestCase):

    def test_whatever_was_called_before(self):
        value, other = row_of('{"a":[1,{"b":2}]}'), row_of('{"a":[1,{"b":3}],"c":null}')
        changes = row_of('[{"at":["a",1,"b"],"is":3,"was":2},{"at":["c"],"is":null}]')
        calls = (lambda: form(value), lambda: run(100, row_of(".a[]=5,."), value), lambda: run(100, row_of(".a[1].b"), value),
                 lambda: differ(value, other), lambda: apply(value, changes), lambda: back(other, changes),
                 lambda: apply(other, changes), lambda: back(value, changes), lambda: form(row_of("x")), lambda: run(3, changes, value))
        firsts = [call() for call in calls]
        self.assertEqual(firsts[3:6], [[0] + changes, [0] + other, [0] + value])
        for order in itertools.permutations(range(len(calls)), 3):
            for number in order:
                self.assertEqual(calls[number](), firsts[number])
        self.assertEqual((value, other), (row_of('{"a":[1,{"b":2}]}'), row_of('{"a":[1,{"b":3}],"c":null}')))


if __name__ == "__main__":
    unittest.main()
