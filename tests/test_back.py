"""back: changes taken back from the last one on, what can't be taken back, and what is refused."""

import contextlib
import io
import itertools
import json
import unittest

from change_model import ChangeMaker, answer_of, form_of, outcome, row_of, turned
from change_samples import BAD, NO_CHANGES, VALUES

from valuetwigs.twigs import apply, back, differ, form


def answer(value, changes):
    return back(row_of(value), row_of(changes))


class BackCase(unittest.TestCase):

    def gives(self, value, expected, *changes):
        self.assertEqual(answer(value, "[" + ",".join(changes) + "]"), [0] + row_of(expected), (value[:80], changes))

    def cannot(self, value, *changes):
        self.assertEqual(answer(value, "[" + ",".join(changes) + "]"), [-16], (value[:80], changes))

    def is_too_large(self, value, *changes):
        self.assertEqual(answer(value, "[" + ",".join(changes) + "]"), [-28], (value[:80], changes))


class EachKind(BackCase):

    def test_was_and_is(self):
        self.gives("2", "1", '{"at":[],"was":1,"is":2}')
        self.gives('{"a":2,"b":3}', '{"a":1,"b":3}', '{"at":["a"],"was":1,"is":2}')
        self.gives("[1,2,3]", "[1,null,3]", '{"at":[1],"was":null,"is":2}')
        self.gives('{"a":[{"b":2}]}', '{"a":[{"b":[]}]}', '{"at":["a",0,"b"],"was":[],"is":2}')
        for value, other in itertools.product(VALUES, repeat=2):
            self.gives(other, value, '{"at":[],"was":%s,"is":%s}' % (value, other))
            if value != other:
                self.cannot(value, '{"at":[],"was":%s,"is":%s}' % (value, other))

    def test_was_and_is_where_something_else_is(self):
        self.cannot("1", '{"at":[],"was":1,"is":2}')
        self.cannot('{"a":1}', '{"at":["a"],"was":1,"is":2}')
        self.cannot('{"a":true}', '{"at":["a"],"was":0,"is":1}')
        self.cannot("[1]", '{"at":[1],"was":1,"is":2}')
        for value, row in (("[]", "[0]"), ("{}", '["a"]'), ("null", "[0]"), ("null", '["a"]'), ("5", "[0]"), ("[]", '["a"]')):
            self.cannot(value, '{"at":%s,"was":1,"is":null}' % row)

    def test_was_alone_is_put_there(self):
        self.gives("{}", '{"a":1}', '{"at":["a"],"was":1}')
        self.gives('{"a":1,"c":3}', '{"a":1,"b":null,"c":3}', '{"at":["b"],"was":null}')
        self.gives("[]", "[1]", '{"at":[0],"was":1}')
        self.gives("[1,2]", "[1,2,{}]", '{"at":[2],"was":{}}')
        self.gives('{"a":[{}]}', '{"a":[{"b":1}]}', '{"at":["a",0,"b"],"was":1}')
        self.gives("null", '{"a":1}', '{"at":["a"],"was":1}')
        self.gives("[null]", "[[1]]", '{"at":[0,0],"was":1}')

    def test_was_alone_that_cannot_be_put(self):
        for value, row in (("1", "[]"), ("null", "[]"), ("[1]", "[0]"), ("[1,2]", "[0]"), ("[null]", "[0]"), ('{"a":1}', '["a"]'),
                           ('{"a":null}', '["a"]'), ("[]", "[1]"), ("[1]", "[3]"), ("null", "[1]"), ("{}", '["a","b"]'),
                           ("null", '["a","b"]'), ("[]", "[0,0]"), ("5", "[0]"), ('"a"', '["a"]'), ("[]", '["a"]'), ("{}", "[0]")):
            self.cannot(value, '{"at":%s,"was":1}' % row)
            self.cannot(value, '{"at":%s,"was":null}' % row)

    def test_is_alone_is_taken_away(self):
        self.gives('{"a":1}', "{}", '{"at":["a"],"is":1}')
        self.gives('{"a":null,"b":[2]}', '{"a":null}', '{"at":["b"],"is":[2]}')
        self.gives('{"a":null}', "{}", '{"at":["a"],"is":null}')
        self.gives("[1,2,3]", "[1,2]", '{"at":[2],"is":3}')
        self.gives("[1,2,3]", "[1,3]", '{"at":[1],"is":2}')
        self.gives("[1,2,3]", "[2,3]", '{"at":[0],"is":1}')
        self.gives('{"a":[{"b":1}]}', '{"a":[{}]}', '{"at":["a",0,"b"],"is":1}')

    def test_is_alone_that_cannot_be_taken_away(self):
        self.cannot('{"a":1}', '{"at":["a"],"is":2}')
        self.cannot('{"a":1}', '{"at":["b"],"is":1}')
        self.cannot("{}", '{"at":["a"],"is":null}')
        self.cannot("[1]", '{"at":[1],"is":null}')
        self.cannot("null", '{"at":[0],"is":null}')
        for value in VALUES:
            self.cannot(value, '{"at":[],"is":%s}' % value)

    def test_neither(self):
        for value in VALUES:
            for row in ("[]", "[0]", '["a"]', "[0,0]", '["a","b"]', "[5]"):
                self.cannot(value, '{"at":%s}' % row)


class Several(BackCase):

    def test_none(self):
        for value in VALUES:
            self.gives(value, value)
            self.gives(" " + value + " ", value)
        self.gives('{"b":1,"a":2}', '{"a":2,"b":1}')
        self.assertEqual(answer("1", " [ ] "), [0] + row_of("1"))

    def test_from_the_last_one_on(self):
        self.gives("3", "1", '{"at":[],"was":1,"is":2}', '{"at":[],"was":2,"is":3}')
        self.gives("[]", "[1,2,3]", '{"at":[2],"was":3}', '{"at":[1],"was":2}', '{"at":[0],"was":1}')
        self.gives("[1,2,3]", "[]", '{"at":[0],"is":1}', '{"at":[1],"is":2}', '{"at":[2],"is":3}')
        self.gives('{"a":{"b":[1,2]}}', "{}", '{"at":["a"],"is":{}}', '{"at":["a","b"],"is":[]}', '{"at":["a","b",0],"is":1}',
                   '{"at":["a","b",1],"is":2}')
        self.gives('{"b":1}', '{"a":1}', '{"at":["a"],"was":1}', '{"at":["b"],"is":1}')
        self.gives('{"a":2}', '{"a":1}', '{"at":["a"],"was":1}', '{"at":["a"],"is":2}')

    def test_not_from_the_first_one_on(self):
        self.cannot("3", '{"at":[],"was":2,"is":3}', '{"at":[],"was":1,"is":2}')
        self.cannot("[]", '{"at":[0],"was":1}', '{"at":[1],"was":2}')
        self.cannot("[1,2]", '{"at":[1],"is":2}', '{"at":[0],"is":1}')
        self.cannot('{"a":{}}', '{"at":["a","b"],"is":1}', '{"at":["a"],"is":{}}')

    def test_one_that_cannot_be_taken_back_is_enough(self):
        good = ['{"at":["a"],"was":1,"is":2}', '{"at":["b"],"is":3}', '{"at":["c"],"was":4}']
        self.gives('{"a":2,"b":3}', '{"a":1,"c":4}', *good)
        for place in range(4):
            for bad in ('{"at":["x"],"was":1,"is":2}', '{"at":["x"],"is":null}', '{"at":["x"]}', '{"at":["x","y"],"was":1}'):
                self.cannot('{"a":2,"b":3}', *good[:place], bad, *good[place:])

    def test_many(self):
        changes = ['{"at":[%d],"is":0}' % place for place in range(200)]
        self.gives("[" + ",".join(["0"] * 200) + "]", "[]", *changes)


class TooLarge(BackCase):

    def test_sizes(self):
        front = "x" * 2000
        for size, fits in ((4095, True), (4096, True), (4097, False), (5000, False)):
            behind = "y" * (size - 2005)
            change = '{"at":["b"],"was":"%s"}' % behind
            if fits:
                self.gives('{"a":"%s"}' % front, '{"a":"%s","b":"%s"}' % (front, behind), change)
            else:
                self.is_too_large('{"a":"%s"}' % front, change)

    def test_depths(self):
        for front, behind, key in (("[", "]", "0"), ('{"a":', "}", '"a"')):
            row = ",".join([key] * 39)
            value = front * 39 + "1" + behind * 39
            for old, fits in (("null", True), ("[]", True), ("{}", True), ("[[]]", False), ('{"a":{}}', False)):
                change = '{"at":[%s],"was":%s,"is":1}' % (row, old)
                if fits:
                    self.gives(value, front * 39 + old + behind * 39, change)
                else:
                    self.is_too_large(value, change)

    def test_only_what_comes_of_it_counts(self):
        text = "x" * 4000
        self.gives('["%s"]' % text, '["%s"]' % text, '{"at":[1],"is":"%s"}' % ("y" * 1000), '{"at":[1],"was":"%s"}' % ("y" * 1000))

    def test_what_cannot_be_taken_back_comes_first(self):
        large = '{"at":[1],"was":"%s"}' % ("y" * 3000)
        value = '["%s"]' % ("x" * 3000)
        self.is_too_large(value, large)
        self.cannot(value, '{"at":[1],"is":1}', large)
        self.cannot(value, large, '{"at":[1],"is":1}')
        self.cannot(value, '{"at":[2]}', large)


class Refusals(BackCase):

    def test_what_is_no_value(self):
        for bad in BAD:
            self.assertEqual(answer(bad, "[]"), [-2])
            self.assertEqual(answer("1", bad), [-3])

    def test_what_is_no_list_of_changes(self):
        for changes in NO_CHANGES:
            for value in ("1", "[1]", '{"a":1}', "null"):
                self.assertEqual(answer(value, changes), [-3], changes)

    def test_one_that_is_no_change_is_enough(self):
        good = ['{"at":[],"was":1,"is":2}', '{"at":[],"was":2,"is":3}']
        for changes in NO_CHANGES:
            if changes.startswith("["):
                for place in range(3):
                    row = "[" + ",".join(good[:place] + [changes[1:-1]] + good[place:]) + "]"
                    self.assertEqual(answer("3", row), [-3], row)

    def test_their_order(self):
        for bad in BAD:
            for other in BAD + NO_CHANGES + ('[{"at":[]}]',):
                self.assertEqual(answer(bad, other), [-2])
        self.assertEqual(answer("1", '[{"at":0},{"at":[]}]'), [-3])
        self.assertEqual(answer("1", '[{},{"at":[],"was":5,"is":2}]'), [-3])

    def test_4096_bytes(self):
        text = '"' + "a" * 4094 + '"'
        self.assertEqual(answer(text, " " * 4094 + "[]"), [0] + row_of(text))
        self.assertEqual(answer(text, " " * 4095 + "[]"), [-3])
        self.assertEqual(answer(" " + text, "[]"), [-2])

    def test_changes_that_are_too_deep(self):
        for depth, number in ((38, 0), (39, -3)):
            deep = "[" * depth + "]" * depth
            self.assertEqual(answer("1", '[{"at":[],"was":%s,"is":1}]' % deep)[0], number)


class AnotherWay(BackCase):

    def test_made_up_changes(self):
        maker = ChangeMaker(21)
        ends = {}
        for _ in range(4000):
            value = maker.value(3)
            # Those that can be applied to the value can be taken back from it once they are turned.
            changes = turned(maker.changes(value))
            expected = answer_of(outcome(value, turned(changes)))
            self.assertEqual(answer(form_of(value), json.dumps(changes)), expected, (value, changes))
            kind = (expected[0], min(len(changes), 2))
            ends[kind] = ends.get(kind, 0) + 1
        # So that many are taken back, and many aren't.
        for kind in ((0, 0), (0, 1), (0, 2), (-16, 1), (-16, 2)):
            self.assertGreater(ends.get(kind, 0), 100, ends)

    def test_it_applies_what_is_turned_round(self):
        maker = ChangeMaker(22)
        for _ in range(1000):
            value = maker.value(3)
            changes = maker.changes(value)
            text = form_of(value)
            self.assertEqual(answer(text, json.dumps(changes)), apply(row_of(text), row_of(json.dumps(turned(changes)))))

    def test_changes_of_other_values(self):
        for value, one, other in itertools.product(VALUES[::2], VALUES[1::3], VALUES[::3]):
            changes = bytes(differ(row_of(one), row_of(other))[1:]).decode()
            expected = answer_of(outcome(json.loads(value), turned(json.loads(changes))))
            self.assertEqual(answer(value, changes), expected, (value, changes))


class Differences(BackCase):

    def leads(self, one, other):
        changes = differ(row_of(one), row_of(other))
        self.assertEqual(changes[0], 0)
        self.assertEqual(apply(row_of(one), changes[1:]), form(row_of(other)), (one, other))
        self.assertEqual(back(row_of(other), changes[1:]), form(row_of(one)), (one, other))

    def test_all_pairs(self):
        for one, other in itertools.product(VALUES, repeat=2):
            self.leads(one, other)

    def test_made_up_pairs(self):
        maker = ChangeMaker(23)
        for _ in range(1000):
            one = maker.value(4)
            self.leads(form_of(one), form_of(maker.altered(one)))
            self.leads(form_of(one), form_of(maker.value(4)))

    def test_the_largest_and_the_deepest(self):
        self.leads('{"a":"%s"}' % ("x" * 4000), '{"b":[]}')
        self.leads('{"b":[]}', '{"a":"%s"}' % ("x" * 4000))
        self.leads("[" * 40 + "1" + "]" * 40, "[" * 40 + "2" + "]" * 40)
        self.leads("[" * 38 + "1" + "]" * 38, "null")
        self.leads("null", "[" * 38 + "1" + "]" * 38)

    def test_changes_that_are_no_value_are_refused(self):
        """What differs may be longer or deeper than a value that can be handed in."""
        one, other = "[" * 40 + "]" * 40, "null"
        changes = differ(row_of(one), row_of(other))
        self.assertEqual(apply(row_of(one), changes[1:]), [-3])
        self.assertEqual(back(row_of(other), changes[1:]), [-3])
        one = "[" + "1," * 500 + "1]"
        changes = differ(row_of(one), row_of("[]"))
        self.assertGreater(len(changes), 4097)
        self.assertEqual(apply(row_of(one), changes[1:5001]), [-3])


class WhatIsHandedIn(BackCase):

    SAMPLES = (("[1,[]]", '[{"at":[1,0],"was":2}]'), ('{"b":2,"a":[2,3]}', '[{"at":["a",1],"is":3},{"at":["b"],"was":1,"is":2}]'),
               ("x", "[]"), ("1", "x"), ("1", "[1]"), ("1", '[{"at":[]}]'), ("null", "[]"), ("[1]", '[{"at":[0],"is":1}]'))

    def test_it_stays(self):
        for value, changes in self.SAMPLES:
            value_row, changes_row = row_of(value), row_of(changes)
            back(value_row, changes_row)
            self.assertEqual((value_row, changes_row), (row_of(value), row_of(changes)))

    def test_the_same_list_may_be_both(self):
        row = row_of("[]")
        self.assertEqual(back(row, row), [0, 91, 93])
        self.assertEqual(row, row_of("[]"))

    def test_calls_keep_nothing(self):
        firsts = [answer(*sample) for sample in self.SAMPLES]
        seconds = [answer(*sample) for sample in reversed(self.SAMPLES)]
        self.assertEqual(firsts, list(reversed(seconds)))

    def test_answers_are_new_lists_of_whole_numbers(self):
        for sample in self.SAMPLES:
            found = answer(*sample)
            self.assertIs(type(found), list)
            self.assertTrue(all(type(number) is int for number in found), sample)
            found.append(1)
            self.assertEqual(answer(*sample) + [1], found)

    def test_nothing_is_printed(self):
        out, errors = io.StringIO(), io.StringIO()
        with contextlib.redirect_stdout(out), contextlib.redirect_stderr(errors):
            for sample in self.SAMPLES:
                answer(*sample)
        self.assertEqual(out.getvalue() + errors.getvalue(), "")


if __name__ == "__main__":
    unittest.main()
