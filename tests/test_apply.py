"""apply: changes applied to a value one after another, what can't be applied, and what is refused."""

import contextlib
import io
import itertools
import json
import unittest

from change_model import ChangeMaker, answer_of, form_of, outcome, row_of
from change_samples import BAD, NO_CHANGES, VALUES

from valuetwigs.twigs import apply, differ, form


def answer(value, changes):
    return apply(row_of(value), row_of(changes))


class ApplyCase(unittest.TestCase):

    def gives(self, value, expected, *changes):
        self.assertEqual(answer(value, "[" + ",".join(changes) + "]"), [0] + row_of(expected), (value[:80], changes))

    def cannot(self, value, *changes):
        self.assertEqual(answer(value, "[" + ",".join(changes) + "]"), [-16], (value[:80], changes))

    def is_too_large(self, value, *changes):
        self.assertEqual(answer(value, "[" + ",".join(changes) + "]"), [-28], (value[:80], changes))


class WithWasAndIs(ApplyCase):

    def test_the_empty_row(self):
        for value, other in itertools.product(VALUES, repeat=2):
            self.gives(value, other, '{"at":[],"was":%s,"is":%s}' % (value, other))
            if value != other:
                self.cannot(value, '{"at":[],"was":%s,"is":1}' % other)

    def test_records(self):
        self.gives('{"a":1,"b":2,"c":3}', '{"a":1,"b":[5],"c":3}', '{"at":["b"],"was":2,"is":[5]}')
        self.gives('{"a":1}', '{"a":null}', '{"at":["a"],"was":1,"is":null}')
        self.gives('{"a":null}', '{"a":1}', '{"at":["a"],"was":null,"is":1}')
        self.gives('{"a":1}', '{"a":1}', '{"at":["a"],"was":1,"is":1}')
        self.gives('{"":1}', '{"":2}', '{"at":[""],"was":1,"is":2}')
        self.gives(r'{"\"\\":1}', r'{"\"\\":2}', r'{"at":["\"\\"],"was":1,"is":2}')
        self.gives('{"a":{"b":1}}', '{"a":7}', '{"at":["a"],"was":{"b":1},"is":7}')

    def test_lists(self):
        self.gives("[1,2,3]", "[0,2,3]", '{"at":[0],"was":1,"is":0}')
        self.gives("[1,2,3]", '[1,"x",3]', '{"at":[1],"was":2,"is":"x"}')
        self.gives("[1,2,3]", "[1,2,{}]", '{"at":[2],"was":3,"is":{}}')
        self.gives("[null]", "[[]]", '{"at":[0],"was":null,"is":[]}')

    def test_nested(self):
        self.gives('{"a":[1,{"b":[2,3]}],"c":4}', '{"a":[1,{"b":[2,9]}],"c":4}', '{"at":["a",1,"b",1],"was":3,"is":9}')
        self.gives('{"a":[1,{"b":[2,3]}],"c":4}', '{"a":[1,0],"c":4}', '{"at":["a",1],"was":{"b":[2,3]},"is":0}')

    def test_fields_of_was_in_any_order(self):
        self.gives('[{"b":1,"a":2}]', "[0]", '{"at":[0],"was":{"b":1,"a":2},"is":0}')
        self.gives('[{"b":1,"a":2}]', "[0]", '{ "was":{"a":2, "b":1} ,"is":0,"at": [ 0 ]}')

    def test_something_else_is_there(self):
        for there, was in (("1", "2"), ("1", "true"), ("0", "false"), ("null", "false"), ('"a"', '"b"'), ('"a"', '"aa"'), ('"1"', "1"),
                           ("[]", "{}"), ("[1]", "[]"), ("[1]", "[1,1]"), ("[1]", "[true]"), ("{}", '{"a":null}'),
                           ('{"a":1}', '{"a":2}'), ('{"a":1}', '{"b":1}'), ("[[1]]", "[[2]]"), ("[]", "null")):
            for old, other in ((there, was), (was, there)):
                self.cannot("[%s]" % old, '{"at":[0],"was":%s,"is":5}' % other)
                self.cannot('{"a":%s}' % old, '{"at":["a"],"was":%s,"is":5}' % other)
                self.cannot(old, '{"at":[],"was":%s,"is":5}' % other)

    def test_nothing_is_there(self):
        """Null isn't there either, where nothing is."""
        for was in ("null", "1", "[]", "{}"):
            for value, row in (("[]", "[0]"), ("[1]", "[1]"), ("[1]", "[2]"), ("{}", '["a"]'), ('{"a":1}', '["b"]'), ("null", "[0]"),
                               ("null", '["a"]'), ("1", "[0]"), ('"a"', "[0]"), ("true", '["a"]'), ("[1]", '["a"]'), ('{"a":1}', "[0]"),
                               ('{"0":1}', "[0]"), ("[1]", '["0"]'), ('{"a":null}', '["a","b"]'), ("[[]]", "[0,0]"), ("[]", "[0,0]"),
                               ("[1]", "[9007199254740991]")):
                self.cannot(value, '{"at":%s,"was":%s,"is":5}' % (row, was))
                self.cannot(value, '{"at":%s,"was":%s}' % (row, was))


class WithWasAlone(ApplyCase):

    def test_records(self):
        self.gives('{"a":1,"b":2,"c":3}', '{"a":1,"c":3}', '{"at":["b"],"was":2}')
        self.gives('{"a":null}', "{}", '{"at":["a"],"was":null}')
        self.gives('{"a":{"b":[1]},"c":0}', '{"c":0}', '{"at":["a"],"was":{"b":[1]}}')
        self.gives('{"":1,"a":2}', '{"a":2}', '{"at":[""],"was":1}')

    def test_lists(self):
        self.gives("[1,2,3]", "[2,3]", '{"at":[0],"was":1}')
        self.gives("[1,2,3]", "[1,3]", '{"at":[1],"was":2}')
        self.gives("[1,2,3]", "[1,2]", '{"at":[2],"was":3}')
        self.gives("[null]", "[]", '{"at":[0],"was":null}')

    def test_nested(self):
        self.gives('[{"a":[1,2]},3]', '[{"a":[1]},3]', '{"at":[0,"a",1],"was":2}')
        self.gives('{"a":{"b":{"c":1}}}', '{"a":{"b":{}}}', '{"at":["a","b","c"],"was":1}')

    def test_something_else_is_there(self):
        self.cannot('{"a":1}', '{"at":["a"],"was":2}')
        self.cannot('{"a":1}', '{"at":["a"],"was":null}')
        self.cannot("[1,2]", '{"at":[0],"was":2}')
        self.cannot("[1,2]", '{"at":[1],"was":[2]}')

    def test_not_the_empty_row(self):
        for value in VALUES:
            self.cannot(value, '{"at":[],"was":%s}' % value)


class WithIsAlone(ApplyCase):

    def test_records(self):
        self.gives("{}", '{"a":1}', '{"at":["a"],"is":1}')
        self.gives('{"a":1,"c":3}', '{"a":1,"b":2,"c":3}', '{"at":["b"],"is":2}')
        self.gives('{"b":1}', '{"B":0,"b":1}', '{"at":["B"],"is":0}')
        self.gives('{"a":1}', '{"":null,"a":1}', '{"at":[""],"is":null}')
        self.gives('{"a":{}}', '{"a":{"b":[[]]}}', '{"at":["a","b"],"is":[[]]}')

    def test_lists_right_behind_the_last_one(self):
        self.gives("[]", "[1]", '{"at":[0],"is":1}')
        self.gives("[1,2]", "[1,2,null]", '{"at":[2],"is":null}')
        self.gives('{"a":[[1]]}', '{"a":[[1,{}]]}', '{"at":["a",0,1],"is":{}}')

    def test_lists_beyond_it(self):
        for row in ("[1]", "[2]", "[100]", "[9007199254740991]"):
            self.cannot("[]", '{"at":%s,"is":1}' % row)
        self.cannot("[1,2]", '{"at":[3],"is":1}')

    def test_something_is_there(self):
        for value, row in (("[1]", "[0]"), ("[1,2]", "[0]"), ("[1,2]", "[1]"), ('{"a":1}', '["a"]'), ("[null]", "[0]"),
                           ('{"a":null}', '["a"]'), ('{"a":[1]}', '["a"]'), ('{"a":[1]}', '["a",0]')):
            self.cannot(value, '{"at":%s,"is":1}' % row)
            self.cannot(value, '{"at":%s,"is":null}' % row)

    def test_the_empty_row(self):
        for value in VALUES:
            self.cannot(value, '{"at":[],"is":%s}' % value)
            self.cannot(value, '{"at":[],"is":1}')

    def test_null_becomes_a_record_or_a_list_with_one(self):
        self.gives("null", '{"a":1}', '{"at":["a"],"is":1}')
        self.gives("null", "[1]", '{"at":[0],"is":1}')
        self.gives('{"a":null,"b":2}', '{"a":{"":null},"b":2}', '{"at":["a",""],"is":null}')
        self.gives("[1,null,3]", "[1,[[]],3]", '{"at":[1,0],"is":[]}')
        self.cannot("null", '{"at":[1],"is":1}')
        self.cannot("[null]", '{"at":[0,1],"is":1}')

    def test_nothing_at_the_place_without_its_last_key(self):
        for value, row in (("{}", '["a","b"]'), ("{}", '["a",0]'), ("[]", "[0,0]"), ("null", "[0,0]"), ("null", '["a","b"]'),
                           ('{"a":null}', '["a","b","c"]'), ('{"a":null}', '["b","c"]'), ("[1]", '[1,"a"]'), ("[[]]", "[0,0,0]"),
                           ("[1]", '["a",0]'), ('{"a":1}', '[0,"a"]'), ("1", "[0,0]")):
            self.cannot(value, '{"at":%s,"is":1}' % row)

    def test_it_cannot_be_put(self):
        for value in ("true", "false", "0", "7", '""', '"ab"'):
            for key in ("0", "1", '"a"', '"0"', '""'):
                self.cannot(value, '{"at":[%s],"is":1}' % key)
                self.cannot("[%s]" % value, '{"at":[0,%s],"is":1}' % key)
                self.cannot('{"a":%s}' % value, '{"at":["a",%s],"is":1}' % key)
        for value, key in (("[]", '"a"'), ("[]", '"0"'), ("[1]", '"1"'), ("{}", "0"), ('{"a":1}', "0"), ('{"a":1}', "1")):
            self.cannot(value, '{"at":[%s],"is":1}' % key)


class WithNeither(ApplyCase):

    def test_it_cannot_be_applied(self):
        for value in VALUES:
            for row in ("[]", "[0]", '["a"]', "[0,0]", '["a","b"]', "[5]"):
                self.cannot(value, '{"at":%s}' % row)
        self.cannot('{"a":1}', '{"at":["a"],"was":1}', '{"at":["a"]}')
        self.cannot('{"a":1}', '{"at":["b"]}', '{"at":["a"],"was":1}')


class Several(ApplyCase):

    def test_none(self):
        for value in VALUES:
            self.gives(value, value)
            self.gives(" " + value + " ", value)
        self.gives('{"b":1,"a":2}', '{"a":2,"b":1}')
        self.assertEqual(answer("1", " [ ] "), [0] + row_of("1"))

    def test_later_ones_lean_on_earlier_ones(self):
        self.gives("{}", '{"a":{"b":[1,2]}}', '{"at":["a"],"is":{}}', '{"at":["a","b"],"is":[]}', '{"at":["a","b",0],"is":1}',
                   '{"at":["a","b",1],"is":2}')
        self.gives("1", "3", '{"at":[],"was":1,"is":2}', '{"at":[],"was":2,"is":3}')
        self.gives("1", '{"a":[0]}', '{"at":[],"was":1,"is":null}', '{"at":["a"],"is":null}', '{"at":["a",0],"is":0}')
        self.gives("[1,2,3]", "[]", '{"at":[2],"was":3}', '{"at":[1],"was":2}', '{"at":[0],"was":1}')
        self.gives("[1,2,3]", "[]", '{"at":[0],"was":1}', '{"at":[0],"was":2}', '{"at":[0],"was":3}')
        self.gives("[1]", "[2]", '{"at":[1],"is":2}', '{"at":[0],"was":1}')
        self.gives('{"a":1}', '{"b":1}', '{"at":["a"],"was":1}', '{"at":["b"],"is":1}')
        self.gives('{"a":1}', '{"a":2}', '{"at":["a"],"was":1}', '{"at":["a"],"is":2}')
        self.gives('{"a":{"b":1}}', '{"a":{}}', '{"at":["a","b"],"was":1,"is":5}', '{"at":["a","b"],"was":5}')

    def test_their_order_counts(self):
        self.cannot("1", '{"at":[],"was":2,"is":3}', '{"at":[],"was":1,"is":2}')
        self.cannot("{}", '{"at":["a","b"],"is":1}', '{"at":["a"],"is":{}}')
        self.cannot("[1,2]", '{"at":[0],"was":1}', '{"at":[1],"was":2}')
        self.cannot("[]", '{"at":[1],"is":2}', '{"at":[0],"is":1}')

    def test_one_that_cannot_be_applied_is_enough(self):
        good = ['{"at":["a"],"was":1,"is":2}', '{"at":["b"],"is":3}', '{"at":["c"],"was":4}']
        self.gives('{"a":1,"c":4}', '{"a":2,"b":3}', *good)
        for place in range(4):
            for bad in ('{"at":["x"],"was":1,"is":2}', '{"at":["x"],"was":null}', '{"at":["x"]}', '{"at":["x","y"],"is":1}'):
                self.cannot('{"a":1,"c":4}', *good[:place], bad, *good[place:])
        self.cannot('{"a":1}', '{"at":["a"],"was":1}', '{"at":["a"],"was":1}')
        self.cannot("{}", '{"at":["a"],"is":1}', '{"at":["a"],"is":1}')

    def test_many(self):
        changes = ['{"at":[%d],"is":0}' % place for place in range(200)]
        self.gives("[]", "[" + ",".join(["0"] * 200) + "]", *changes)
        self.gives("[0]", "[0]", *['{"at":[0],"was":0,"is":0}'] * 150)
        names = ["%02d" % number for number in range(99, -1, -1)]
        self.gives("{}", "{" + ",".join('"%s":1' % name for name in reversed(names)) + "}",
                   *['{"at":["%s"],"is":1}' % name for name in names])


class TooLarge(ApplyCase):

    def test_sizes(self):
        front = "x" * 2000
        for size, fits in ((4095, True), (4096, True), (4097, False), (5000, False)):
            behind = "y" * (size - 2005)
            change = '{"at":["b"],"is":"%s"}' % behind
            if fits:
                self.gives('{"a":"%s"}' % front, '{"a":"%s","b":"%s"}' % (front, behind), change)
            else:
                self.is_too_large('{"a":"%s"}' % front, change)

    def test_sizes_by_values(self):
        # The list has 2046 numbers, then one of 1000 numbers and a text: 1 + 2046 + 1 + 1000 + 1 and the text's bytes.
        ones = "1," * 2046
        for length, fits in ((1046, True), (1047, True), (1048, False)):
            new = "[" + "2," * 1000 + '"' + "z" * length + '"]'
            change = '{"at":[2046],"was":[],"is":%s}' % new
            if fits:
                self.gives("[" + ones + "[]]", "[" + ones + new + "]", change)
            else:
                self.is_too_large("[" + ones + "[]]", change)

    def test_depths(self):
        for front, behind, key in (("[", "]", "0"), ('{"a":', "}", '"a"')):
            row = ",".join([key] * 39)
            value = front * 39 + "null" + behind * 39
            for new, fits in (("1", True), ("[]", True), ("{}", True), ("[1]", True), ("[[]]", False), ('{"a":{}}', False),
                              ("[1,[2]]", False), ('[[[["a"]]]]', False)):
                change = '{"at":[%s],"was":null,"is":%s}' % (row, new)
                if fits:
                    self.gives(value, front * 39 + new + behind * 39, change)
                else:
                    self.is_too_large(value, change)

    def test_null_may_become_too_deep_too(self):
        row = ",".join(["0"] * 40)
        value = "[" * 39 + "null" + "]" * 39
        self.gives(value, "[" * 40 + "1" + "]" * 40, '{"at":[%s],"is":1}' % row)
        self.is_too_large(value, '{"at":[%s],"is":[]}' % row)
        self.is_too_large("[" * 40 + "null" + "]" * 40, '{"at":[%s,0],"is":1}' % row)

    def test_only_what_comes_of_it_counts(self):
        text = "x" * 4000
        self.gives('["%s"]' % text, '["%s"]' % text, '{"at":[1],"is":"%s"}' % ("y" * 1000), '{"at":[1],"was":"%s"}' % ("y" * 1000))
        value = "[" * 39 + "1" + "]" * 39
        row = ",".join(["0"] * 38)
        self.gives(value, "[" * 39 + "2" + "]" * 39, '{"at":[%s,0],"was":1,"is":[[[]]]}' % row, '{"at":[%s,0],"was":[[[]]],"is":2}' % row)

    def test_very_deep_on_the_way(self):
        deep = "[" * 36 + "null" + "]" * 36
        row = lambda count: "[" + ",".join(["0"] * count) + "]"
        changes = ['{"at":%s,"was":null,"is":%s}' % (row(36 * count), deep) for count in range(8)]
        self.assertLessEqual(len(",".join(changes)), 4000)
        self.is_too_large("null", *changes)
        self.cannot("null", *changes, '{"at":%s,"was":1}' % row(300))
        self.cannot("null", *changes, '{"at":[],"was":%s,"is":1}' % deep)
        self.cannot("null", *changes, '{"at":[],"was":%s,"is":1}' % deep.replace("null", "[]"))

    def test_what_cannot_be_applied_comes_first(self):
        large = ['{"at":[1],"is":"%s"}' % ("y" * 3000)]
        value = '["%s"]' % ("x" * 3000)
        self.is_too_large(value, *large)
        self.cannot(value, *large, '{"at":[1],"was":1}')
        self.cannot(value, '{"at":[1],"was":1}', *large)
        self.cannot(value, *large, '{"at":[2]}')


class Refusals(ApplyCase):

    def test_what_is_no_value(self):
        for bad in BAD:
            self.assertEqual(answer(bad, "[]"), [-2])
            self.assertEqual(answer("1", bad), [-3])

    def test_what_is_no_list_of_changes(self):
        for changes in NO_CHANGES:
            for value in ("1", "[1]", '{"a":1}', "null"):
                self.assertEqual(answer(value, changes), [-3], changes)

    def test_one_that_is_no_change_is_enough(self):
        good = ['{"at":[],"was":1,"is":2}', '{"at":[],"was":2,"is":3}']
        for changes in NO_CHANGES:
            if changes.startswith("[") and changes != "[]":
                bad = changes[1:-1]
                for place in range(3):
                    row = "[" + ",".join(good[:place] + [bad] + good[place:]) + "]"
                    self.assertEqual(answer("1", row), [-3], row)

    def test_their_order(self):
        for bad in BAD:
            for other in BAD + NO_CHANGES + ('[{"at":[]}]',):
                self.assertEqual(answer(bad, other), [-2])
        # No list of changes comes ahead of what can't be applied, wherever it stands.
        self.assertEqual(answer("1", '[{"at":[]},{"at":0}]'), [-3])
        self.assertEqual(answer("1", '[{"at":[],"was":5,"is":2},{}]'), [-3])
        self.assertEqual(answer('["%s"]' % ("x" * 3000), '[{"at":[1],"is":"%s"},1]' % ("y" * 900 * 3)), [-3])

    def test_keys_that_may_stand_in_a_row(self):
        for row in ("[0]", "[9007199254740991]", '[""]', '["-1"]', '["a",0,"b",1]', "[" + "0," * 1000 + "0]"):
            self.cannot("1", '{"at":%s,"was":1}' % row)

    def test_4096_bytes(self):
        text = '"' + "a" * 4094 + '"'
        self.assertEqual(answer(text, "[]"), [0] + row_of(text))
        self.assertEqual(answer(text, " " * 4094 + "[]"), [0] + row_of(text))
        self.assertEqual(answer(text, " " * 4095 + "[]"), [-3])
        front = '[{"at":[],"was":1,"is":"'
        changes = front + "b" * (4096 - len(front) - 3) + '"}]'
        self.assertEqual(len(changes), 4096)
        self.assertEqual(answer("1", changes), [0] + row_of(changes[len(front) - 1:-2]))
        self.assertEqual(answer("1", changes + " "), [-3])

    def test_changes_that_are_too_deep(self):
        for depth, number in ((38, 0), (39, -3)):
            deep = "[" * depth + "]" * depth
            self.assertEqual(answer("1", '[{"at":[],"was":1,"is":%s}]' % deep)[0], number)


class AnotherWay(ApplyCase):

    def test_made_up_changes(self):
        maker = ChangeMaker(11)
        ends = {}
        for _ in range(4000):
            value = maker.value(3)
            changes = maker.changes(value)
            expected = answer_of(outcome(value, changes))
            self.assertEqual(answer(form_of(value), json.dumps(changes)), expected, (value, changes))
            kind = (expected[0], min(len(changes), 2))
            ends[kind] = ends.get(kind, 0) + 1
        # So that many are applied, and many aren't.
        for kind in ((0, 0), (0, 1), (0, 2), (-16, 1), (-16, 2)):
            self.assertGreater(ends.get(kind, 0), 100, ends)

    def test_changes_of_other_values(self):
        for value, one, other in itertools.product(VALUES[::2], VALUES[1::3], VALUES[::3]):
            changes = bytes(differ(row_of(one), row_of(other))[1:]).decode()
            expected = answer_of(outcome(json.loads(value), json.loads(changes)))
            self.assertEqual(answer(value, changes), expected, (value, changes))


class Differences(ApplyCase):

    def leads(self, one, other):
        changes = differ(row_of(one), row_of(other))
        self.assertEqual(changes[0], 0)
        self.assertEqual(apply(row_of(one), changes[1:]), form(row_of(other)), (one, other))

    def test_all_pairs(self):
        for one, other in itertools.product(VALUES, repeat=2):
            self.leads(one, other)

    def test_made_up_pairs(self):
        maker = ChangeMaker(12)
        for _ in range(1000):
            one = maker.value(4)
            self.leads(form_of(one), form_of(maker.altered(one)))
            self.leads(form_of(one), form_of(maker.value(4)))

    def test_the_largest_and_the_deepest(self):
        self.leads('{"a":"%s"}' % ("x" * 4000), '{"b":[]}')
        self.leads('{"b":[]}', '{"a":"%s"}' % ("x" * 4000))
        self.leads("[" * 40 + "1" + "]" * 40, "[" * 40 + "2" + "]" * 40)
        self.leads("[" * 38 + "1" + "]" * 38, "null")
        self.leads("null", "[" * 38 + "1" + "]" * 38)


class WhatIsHandedIn(ApplyCase):

    SAMPLES = (("[1,[2]]", '[{"at":[1,0],"was":2}]'), ('{"b":1,"a":[2]}', '[{"at":["a",1],"is":3},{"at":["b"],"was":1,"is":2}]'),
               ("x", "[]"), ("1", "x"), ("1", "[1]"), ("1", '[{"at":[]}]'), ("null", "[]"), ("[]", '[{"at":[0],"is":1}]'))

    def test_it_stays(self):
        for value, changes in self.SAMPLES:
            value_row, changes_row = row_of(value), row_of(changes)
            apply(value_row, changes_row)
            self.assertEqual((value_row, changes_row), (row_of(value), row_of(changes)))

    def test_the_same_list_may_be_both(self):
        row = row_of("[]")
        self.assertEqual(apply(row, row), [0, 91, 93])
        self.assertEqual(row, row_of("[]"))

    def test_calls_keep_nothing(self):
        firsts = [answer(*sample) for sample in self.SAMPLES]
        seconds = [answer(*sample) for sample in reversed(self.SAMPLES)]
        self.assertEqual(firsts, list(reversed(seconds)))

    def test_answers_are_new_lists_of_whole_numbers(self):
        for sample in self.SAMPLES:
            found = answer(*sample)
            self.assertIs(type(found), list)
            self.assertTrue(all(type(number) is int for number in found), sample)
            found.append(1)
            self.assertEqual(answer(*sample) + [1], found)

    def test_nothing_is_printed(self):
        out, errors = io.StringIO(), io.StringIO()
        with contextlib.redirect_stdout(out), contextlib.redirect_stderr(errors):
            for sample in self.SAMPLES:
                answer(*sample)
        self.assertEqual(out.getvalue() + errors.getvalue(), "")


if __name__ == "__main__":
    unittest.main()
