"""differ: what differs between two values, as changes in their order, and what is refused."""

import contextlib
import io
import itertools
import json
import random
import unittest

from valuetwigs.twigs import differ

VALUES = ("null", "true", "false", "0", "1", "-5", '""', '"a"', '"b"', "[]", "[1]", "[1,2]", "[2]", "[[1],2]", "[null]", "[[]]",
          "[{}]", "{}", '{"a":1}', '{"a":2}', '{"a":null}', '{"b":1}', '{"a":1,"b":2}', '{"a":{"b":1}}', '{"a":[1,2]}',
          '{"a":[1,{"c":3}],"b":{"d":null}}', '{"a":[1,{"c":4,"d":5}],"c":{}}', '[{"a":1},[2,3,4],"x"]', '[{"a":1},[2],"y",5,6]')


def row_of(text):
    return list(text.encode("latin-1"))


def answer(one, other):
    return differ(row_of(one), row_of(other))


def key_of(value):
    """So that true and 1 aren't the same."""
    return json.dumps(value, sort_keys=True)


def put(value, row, new):
    if not row:
        return new
    holder = dict(value) if isinstance(value, dict) else list(value)
    inner = put(holder[row[0]], row[1:], new) if len(row) > 1 else new
    if isinstance(holder, list) and row[0] == len(holder):
        holder.append(inner)
    else:
        holder[row[0]] = inner
    return holder


def taken(value, row):
    if len(row) > 1:
        return put(value, row[:1], taken(value[row[0]], row[1:]))
    holder = dict(value) if isinstance(value, dict) else list(value)
    if isinstance(holder, list):
        assert row[0] == len(holder) - 1
    holder.pop(row[0])
    return holder


def at(value, row):
    for key in row:
        value = value[key]
    return value


def is_there(value, row):
    if not row:
        return True
    holder = at(value, row[:-1])
    return row[-1] in holder if isinstance(holder, dict) else row[-1] < len(holder)


def applied(value, changes, old, new):
    for change in changes:
        row = change["at"]
        if old in change:
            assert key_of(at(value, row)) == key_of(change[old])
        else:
            assert not is_there(value, row)
        value = put(value, row, change[new]) if new in change else taken(value, row)
    return value


def differences(one, other, row):
    """What differs, found another way: by recursion over Python's own values."""
    if key_of(one) == key_of(other):
        return
    if isinstance(one, dict) and isinstance(other, dict):
        for name in sorted(set(one) | set(other)):
            if name not in one:
                yield {"at": row + [name], "is": other[name]}
            elif name not in other:
                yield {"at": row + [name], "was": one[name]}
            else:
                yield from differences(one[name], other[name], row + [name])
    elif isinstance(one, list) and isinstance(other, list):
        for place, (left, right) in enumerate(zip(one, other)):
            yield from differences(left, right, row + [place])
        for place in reversed(range(len(other), len(one))):
            yield {"at": row + [place], "was": one[place]}
        for place in range(len(one), len(other)):
            yield {"at": row + [place], "is": other[place]}
    else:
        yield {"at": row, "was": one, "is": other}


class DifferCase(unittest.TestCase):

    def gives(self, one, other, *changes):
        self.assertEqual(answer(one, other), [0] + row_of("[" + ",".join(changes) + "]"), (one[:80], other[:80]))


class Changes(DifferCase):

    def test_the_same(self):
        for value in VALUES:
            self.gives(value, value)
            self.gives(" " + value + " ", value)
        self.gives('{"a":1,"b":2}', '{"b":2,"a":1}')

    def test_single_values(self):
        self.gives("1", "2", '{"at":[],"is":2,"was":1}')
        self.gives('"a"', '"b"', '{"at":[],"is":"b","was":"a"}')
        self.gives("true", "false", '{"at":[],"is":false,"was":true}')
        self.gives("null", "false", '{"at":[],"is":false,"was":null}')
        self.gives("5", "null", '{"at":[],"is":null,"was":5}')

    def test_unlike_kinds(self):
        kinds = ("null", "true", "0", '""', "[]", "{}")
        for one, other in itertools.permutations(kinds, 2):
            self.gives(one, other, '{"at":[],"is":%s,"was":%s}' % (other, one))
            self.gives("[%s]" % one, "[%s]" % other, '{"at":[0],"is":%s,"was":%s}' % (other, one))
            self.gives('{"a":%s}' % one, '{"a":%s}' % other, '{"at":["a"],"is":%s,"was":%s}' % (other, one))
        self.gives('[{"a":1}]', '[["a",1]]', '{"at":[0],"is":["a",1],"was":{"a":1}}')
        self.gives("true", "1", '{"at":[],"is":1,"was":true}')
        self.gives("[0]", "[false]", '{"at":[0],"is":false,"was":0}')

    def test_records(self):
        self.gives('{"a":1}', "{}", '{"at":["a"],"was":1}')
        self.gives("{}", '{"a":1}', '{"at":["a"],"is":1}')
        self.gives("{}", '{"a":null}', '{"at":["a"],"is":null}')
        self.gives('{"a":null}', "{}", '{"at":["a"],"was":null}')
        self.gives('{"a":1}', '{"b":1}', '{"at":["a"],"was":1}', '{"at":["b"],"is":1}')
        self.gives('{"b":1}', '{"a":1}', '{"at":["a"],"is":1}', '{"at":["b"],"was":1}')
        self.gives('{"a":1,"c":3,"e":5,"f":6}', '{"b":2,"c":4,"d":0,"f":6}', '{"at":["a"],"was":1}', '{"at":["b"],"is":2}',
                   '{"at":["c"],"is":4,"was":3}', '{"at":["d"],"is":0}', '{"at":["e"],"was":5}')

    def test_names_rise_by_bytes(self):
        self.gives("{}", r'{"b":1,"":2,"a":3,"aa":4,"B":5,"\"":6,"~":7,"10":8,"9":9}', '{"at":[""],"is":2}',
                   r'{"at":["\""],"is":6}', '{"at":["10"],"is":8}', '{"at":["9"],"is":9}', '{"at":["B"],"is":5}',
                   '{"at":["a"],"is":3}', '{"at":["aa"],"is":4}', '{"at":["b"],"is":1}', '{"at":["~"],"is":7}')

    def test_lists(self):
        self.gives("[1,2,3]", "[1,5,3]", '{"at":[1],"is":5,"was":2}')
        self.gives("[1,2,3]", "[4,2,6]", '{"at":[0],"is":4,"was":1}', '{"at":[2],"is":6,"was":3}')
        self.gives("[1,2,3,4]", "[1]", '{"at":[3],"was":4}', '{"at":[2],"was":3}', '{"at":[1],"was":2}')
        self.gives("[1]", "[1,2,3,4]", '{"at":[1],"is":2}', '{"at":[2],"is":3}', '{"at":[3],"is":4}')
        self.gives("[1,2]", "[]", '{"at":[1],"was":2}', '{"at":[0],"was":1}')
        self.gives("[]", "[1,2]", '{"at":[0],"is":1}', '{"at":[1],"is":2}')
        self.gives("[1,2,3]", "[2,3]", '{"at":[0],"is":2,"was":1}', '{"at":[1],"is":3,"was":2}', '{"at":[2],"was":3}')
        self.gives("[2,3]", "[1,2,3]", '{"at":[0],"is":1,"was":2}', '{"at":[1],"is":2,"was":3}', '{"at":[2],"is":3}')
        self.gives("[null]", "[]", '{"at":[0],"was":null}')

    def test_nested(self):
        self.gives('{"a":{"b":[1,{"c":2}]}}', '{"a":{"b":[1,{"c":3}]}}', '{"at":["a","b",1,"c"],"is":3,"was":2}')
        self.gives('[[1,2],[3]]', '[[1],[4,5]]', '{"at":[0,1],"was":2}', '{"at":[1,0],"is":4,"was":3}', '{"at":[1,1],"is":5}')
        self.gives('[[1,[2,3]],7,8]', '[[0,[2]]]', '{"at":[0,0],"is":0,"was":1}', '{"at":[0,1,1],"was":3}', '{"at":[2],"was":8}',
                   '{"at":[1],"was":7}')
        self.gives('{"a":[1,2],"b":{"c":1}}', '{"a":[1],"b":{"c":2,"d":3},"e":[]}', '{"at":["a",1],"was":2}',
                   '{"at":["b","c"],"is":2,"was":1}', '{"at":["b","d"],"is":3}', '{"at":["e"],"is":[]}')
        self.gives('{"a":{"b":1}}', '{"a":[1]}', '{"at":["a"],"is":[1],"was":{"b":1}}')
        self.gives('{"a":{"b":{"c":1}}}', "{}", '{"at":["a"],"was":{"b":{"c":1}}}')
        self.gives("[]", '[{"b":[1]}]', '{"at":[0],"is":{"b":[1]}}')

    def test_the_deepest(self):
        for front, behind, key in (("[", "]", "0"), ('{"a":', "}", '"a"')):
            row = ",".join([key] * 40)
            self.gives(front * 40 + "1" + behind * 40, front * 40 + "2" + behind * 40, '{"at":[%s],"is":2,"was":1}' % row)
            deep = front * 40 + "1" + behind * 40
            self.gives(deep, "null", '{"at":[],"is":null,"was":%s}' % deep)
            self.gives("null", deep, '{"at":[],"is":%s,"was":null}' % deep)

    def test_long_ones(self):
        self.gives("[" + "1," * 2046 + "1]", "[" + "1," * 2046 + "2]", '{"at":[2046],"is":2,"was":1}')
        self.gives("[" + "1," * 1499 + "1]", "[]",
                   *['{"at":[%d],"was":1}' % place for place in reversed(range(1500))])
        names = ["%03d" % number for number in range(450)]
        self.gives("{}", "{" + ",".join('"%s":1' % name for name in names) + "}",
                   *['{"at":["%s"],"is":1}' % name for name in names])


class AnotherWay(DifferCase):

    def compare(self, one, other):
        changes = list(differences(json.loads(one), json.loads(other), []))
        expected = json.dumps(changes, sort_keys=True, separators=(",", ":"))
        self.assertEqual(answer(one, other), [0] + row_of(expected), (one, other))
        self.check_ways(one, other, changes)

    def check_ways(self, one, other, changes):
        """Differences lead there, and back."""
        there = applied(json.loads(one), changes, "was", "is")
        self.assertEqual(key_of(there), key_of(json.loads(other)))
        back = applied(json.loads(other), list(reversed(changes)), "is", "was")
        self.assertEqual(key_of(back), key_of(json.loads(one)))

    def test_all_pairs(self):
        for one, other in itertools.product(VALUES, repeat=2):
            self.compare(one, other)

    def test_made_up_pairs(self):
        source = random.Random(7)
        for _ in range(1500):
            one = self.made_up(source, 4)
            other = self.altered(source, one) if source.random() < 0.8 else self.made_up(source, 4)
            self.compare(json.dumps(one, separators=(",", ":")), json.dumps(other))

    def made_up(self, source, left):
        shape = source.randrange(6 if left else 4)
        if shape == 4:
            return [self.made_up(source, left - 1) for _ in range(source.randrange(4))]
        if shape == 5:
            return {source.choice(["a", "b", "c", "", "ab"]): self.made_up(source, left - 1) for _ in range(source.randrange(4))}
        return source.choice([None, True, False, 0, 1, -7, "", "a", "b\""])

    def altered(self, source, value):
        if source.random() < 0.15:
            return self.made_up(source, 2)
        if isinstance(value, list):
            kept = [self.altered(source, inner) for inner in value]
            return source.choice([kept, kept, kept[:-1], kept[1:], kept + [5], kept + [None, []]])
        if isinstance(value, dict):
            kept = {name: self.altered(source, value[name]) for name in value if source.random() < 0.8}
            return {**kept, "new": 1} if source.random() < 0.3 else kept
        return value


class Refusals(DifferCase):

    BAD = ("", " ", "nul", "[1,]", '{"a":1,"a":2}', " " * 4096 + "1", '"' + "a" * 4095 + '"', "1 2", "[" * 41 + "]" * 41,
           "9007199254740992", "-0", "\x00", '"\xe9"', " " * 5000)

    def test_their_order(self):
        for bad in self.BAD:
            for value in VALUES[:12]:
                self.assertEqual(answer(bad, value), [-2])
                self.assertEqual(answer(value, bad), [-3])
            for other in self.BAD:
                self.assertEqual(answer(bad, other), [-2])

    def test_4096_bytes(self):
        text = '"' + "a" * 4094 + '"'
        self.gives(text, text)
        self.gives(text, " " * 4095 + "1", '{"at":[],"is":1,"was":%s}' % text)
        self.gives(" " * 4095 + "1", text, '{"at":[],"is":%s,"was":1}' % text)

    def test_65536_bytes_answered_and_no_more(self):
        # Of 18 changes all but the last repeat the long name; the last one's new value fills up what is missing.
        size = 3820
        count = 17
        one = '{"%s":[%s],"z":1}' % ("n" * size, ",".join(["1"] * count))
        length = 2 + sum(len('{"at":["",%d],"is":2,"was":1}' % place) + size for place in range(count)) + count
        missing = 65536 - length - len('{"at":["z"],"is":"","was":1}')
        self.assertGreater(missing, 0)
        for more in (-1, 0, 1):
            text = "t" * (missing + more)
            other = one.replace("1", "2").replace('"z":2', '"z":"%s"' % text)
            self.assertLessEqual(len(other), 4096)
            self.assertEqual(len(answer(one, other)), 1 if more > 0 else 1 + 65536 + more)
            self.assertEqual(answer(one, other)[0], -28 if more > 0 else 0)

    def test_far_too_long(self):
        one = '{"%s":[%s]}' % ("n" * 2000, ",".join(["1"] * 1000))
        self.assertEqual(answer(one, one.replace("1", "2")), [-28])
        self.assertEqual(answer(one, one), [0, 91, 93])


class WhatHolds(DifferCase):

    SAMPLES = (("[1,[2]]", '{"a":1}'), ('{"b":1,"a":[2]}', '{"a":[3],"c":null}'), ("x", "1"), ("1", "x"), ("1", "1"))

    def test_what_is_handed_in_stays(self):
        for one, other in self.SAMPLES:
            one_row, other_row = row_of(one), row_of(other)
            differ(one_row, other_row)
            self.assertEqual((one_row, other_row), (row_of(one), row_of(other)))

    def test_the_same_list_may_be_both(self):
        row = row_of("[1]")
        self.assertEqual(differ(row, row), [0, 91, 93])
        self.assertEqual(row, row_of("[1]"))

    def test_calls_keep_nothing(self):
        firsts = [answer(*sample) for sample in self.SAMPLES]
        seconds = [answer(*sample) for sample in reversed(self.SAMPLES)]
        self.assertEqual(firsts, list(reversed(seconds)))

    def test_answers_are_new_lists_of_whole_numbers(self):
        for sample in self.SAMPLES:
            found = answer(*sample)
            self.assertIs(type(found), list)
            self.assertTrue(all(type(number) is int for number in found), sample)
            found.append(1)
            self.assertEqual(answer(*sample) + [1], found)

    def test_nothing_is_printed(self):
        out, errors = io.StringIO(), io.StringIO()
        with contextlib.redirect_stdout(out), contextlib.redirect_stderr(errors):
            for sample in self.SAMPLES:
                answer(*sample)
        self.assertEqual(out.getvalue() + errors.getvalue(), "")


if __name__ == "__main__":
    unittest.main()
