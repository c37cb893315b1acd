"""form: each kind of value, the edges that the document names, and what is no value."""

import contextlib
import io
import itertools
import json
import re
import unittest

from valuetwigs.twigs import form

REFUSED = [-2]
BLANKS = (" ", "\t", "\n", "\r")


def row_of(text):
    return list(text.encode("latin-1"))


def answer(text):
    return form(row_of(text))


class FormCase(unittest.TestCase):

    def gives(self, text, expected):
        self.assertEqual(answer(text), [0] + row_of(expected), text)

    def keeps(self, text):
        self.gives(text, text)

    def refuses(self, text):
        self.assertEqual(answer(text), REFUSED, text)


class Kinds(FormCase):

    def test_each_kind_as_it_is_written(self):
        for text in ("null", "true", "false", "0", "7", "-7", '""', '"a b"', "[]", "{}", "[1]", '{"a":1}',
                     '[null,true,false,-12,"x",[],{}]',
                     '{"a":null,"b":true,"c":false,"d":-12,"e":"x","f":[],"g":{}}'):
            self.keeps(text)

    def test_nothing_at_all(self):
        self.assertEqual(form([]), REFUSED)
        for blank in BLANKS:
            self.refuses(blank)
            self.refuses(blank * 3)

    def test_words_are_whole_and_small(self):
        for text in ("nul", "nulll", "Null", "NULL", "tru", "truee", "True", "fals", "falsee", "n", "t", "f",
                     "nulltrue", "undefined", "none", "a", "_", "[nul]", "[nullnull]", "null1", "1null"):
            self.refuses(text)

    def test_every_single_byte(self):
        digits = [[48 + digit] for digit in range(10)]
        for byte in range(256):
            expected = [0, byte] if [byte] in digits else REFUSED
            self.assertEqual(form([byte]), expected, byte)

    def test_something_behind_the_value(self):
        for text in ("1 2", "null null", "[][]", "{}{}", '"a""b"', "[] ,", "1,", "1:", "{}]", "[]]", "1]", "1}",
                     '"a"b', "1\x00", "[]\x00", "[] []", "1,2", "1-2", "1 -2", '"a":1'):
            self.refuses(text)


class Blanks(FormCase):

    def test_each_blank_in_every_place(self):
        parts = ["{", '"b"', ":", "[", "1", ",", "-", "2", ",", "null", ",", "[", "]", ",", "{", "}", "]", ",",
                 '"a"', ":", "true", ",", '"c"', ":", "false", "}"]
        expected = '{"a":true,"b":[1,-2,null,[],{}],"c":false}'
        for blank in BLANKS + ("\r\n", " \t\n\r "):
            self.gives(blank.join(parts), expected)
            for place in range(len(parts) + 1):
                self.gives("".join(parts[:place]) + blank + "".join(parts[place:]), expected)

    def test_in_front_of_and_behind_each_kind(self):
        for blank in BLANKS:
            for text in ("null", "true", "false", "0", "-5", '"x"', "[]", "{}"):
                self.gives(blank + text + blank, text)

    def test_behind_a_minus(self):
        for blank in BLANKS:
            self.gives("-" + blank + "5", "-5")
            self.gives("[-" + blank * 7 + "50]", "[-50]")
            self.refuses("-" + blank + "0")
            self.refuses("-" + blank)
            self.refuses("-" + blank + "-" + blank + "5")

    def test_not_in_words_or_among_digits(self):
        for blank in BLANKS:
            for word in ("null", "true", "false", "12", "100"):
                for place in range(1, len(word)):
                    self.refuses(word[:place] + blank + word[place:])
                    self.refuses("[" + word[:place] + blank + word[place:] + "]")

    def test_in_texts_32_is_kept_and_the_others_are_refused(self):
        self.keeps('"  a  b  "')
        self.keeps('{" a ":1}')
        for blank in ("\t", "\n", "\r"):
            self.refuses('"a' + blank + 'b"')
            self.refuses('{"a' + blank + '":1}')

    def test_no_other_byte_is_a_blank(self):
        for byte in range(256):
            if byte not in (9, 10, 13, 32):
                between = [91, 49, 44, byte, 93]
                if byte in range(48, 58):
                    self.assertEqual(form(between), [0] + between)
                else:
                    self.assertEqual(form(between), REFUSED, byte)

    def test_bytes_that_other_texts_call_blank(self):
        for byte in ("\x00", "\x0b", "\x0c", "\x1c", "\x1f", "\x85", "\xa0"):
            self.refuses(byte + "1")
            self.refuses("1" + byte)
            self.refuses("-" + byte + "1")


class Numbers(FormCase):

    def test_the_edges(self):
        for text in ("0", "1", "-1", "9", "10", "-10", "1000000000000000", "9007199254740990", "-9007199254740990",
                     "9007199254740991", "-9007199254740991", "999999999999999"):
            self.keeps(text)
            self.keeps("[" + text + "]")

    def test_too_large(self):
        for text in ("9007199254740992", "-9007199254740992", "9007199254740993", "9999999999999999",
                     "-9999999999999999", "10000000000000000", "-10000000000000000", "1" * 17, "1" * 4096):
            self.refuses(text)
            self.refuses("[" + text + "]")

    def test_needless_zeros_and_no_digits(self):
        for text in ("-0", "00", "01", "-00", "-01", "- 0", "- 01", "-", "- ", "--1", "+1", "000", "0000000000000001",
                     "00000000000000001", "1.0", "1.", ".1", "1e3", "1E3", "0x1", "1_0", "\xb2", "NaN", "-null",
                     '-"1"', "-[]", "[-]", "[1,-]", "1-", "-1-"):
            self.refuses(text)


class Texts(FormCase):

    def test_each_byte_within(self):
        for byte in range(256):
            row = [34, 97, byte, 98, 34]
            if 32 <= byte <= 126 and byte not in (34, 92):
                self.assertEqual(form(row), [0] + row, byte)
            else:
                self.assertEqual(form(row), REFUSED, byte)

    def test_each_byte_behind_a_backslash(self):
        for byte in range(256):
            row = [34, 92, byte, 34]
            self.assertEqual(form(row), [0] + row if byte in (34, 92) else REFUSED, byte)

    def test_quotes_and_backslashes(self):
        for text in (r'"\""', r'"\\"', r'"\\\""', r'"\"\\"', r'"a\"b\\c"', r'["\\","\""]', '""', '" "', '"~"'):
            self.keeps(text)

    def test_no_end(self):
        for text in ('"', '"a', '"\\', '"\\"', '"\\\\\\"', '["a', '{"a', '{"a":"', "'a'", 'a"', '"""', '["]'):
            self.refuses(text)

    def test_brackets_and_signs_in_texts_are_only_bytes(self):
        self.keeps('"[{]},:- null"')
        self.keeps('{"]":"}"}')


class Lists(FormCase):

    def test_order_and_likes_are_kept(self):
        self.keeps("[3,1,2,1]")
        self.keeps("[[],[[]],[[],[]],[{}]]")

    def test_refused(self):
        for text in ("[", "]", "[,]", "[1,]", "[,1]", "[1,,2]", "[1 2]", "[1", "[1,", "[[1]", "[1]]", "[1}", "[}",
                     "[1:2]", "[:]", '["a":1]', "[[]", "[][", "(1)", "[1;2]", "[1][2]", '["a""b"]', "[[}]", "[{]"):
            self.refuses(text)


class Records(FormCase):

    def test_names_rise_by_bytes_with_a_beginning_first(self):
        self.gives('{"b":1,"a":2}', '{"a":2,"b":1}')
        self.gives('{"ab":1,"b":2,"a":3,"":4,"aa":5,"B":6,"~":7," ":8,"10":9,"9":10}',
                   '{"":4," ":8,"10":9,"9":10,"B":6,"a":3,"aa":5,"ab":1,"b":2,"~":7}')

    def test_names_rise_by_their_bytes_and_not_as_they_are_written(self):
        self.gives(r'{"a#":1,"a\"":2,"a!":3}', r'{"a!":3,"a\"":2,"a#":1}')
        self.gives(r'{"]":1,"\\":2,"[":3,"\"":4}', r'{"\"":4,"[":3,"\\":2,"]":1}')

    def test_fields_in_any_order(self):
        fields = ('"":[1]', '"a":{}', '"ab":null', r'"b\"":"a"')
        expected = "{" + ",".join(fields) + "}"
        for chosen in itertools.permutations(fields):
            self.gives("{" + ",".join(chosen) + "}", expected)

    def test_inner_records_are_put_in_order_too(self):
        self.gives('[{"b":{"d":1,"c":2},"a":[{"f":3,"e":4}]}]', '[{"a":[{"e":4,"f":3}],"b":{"c":2,"d":1}}]')

    def test_the_empty_name(self):
        self.keeps('{"":1}')
        self.keeps('{"":{"":{}}}')

    def test_a_name_twice(self):
        for text in ('{"a":1,"a":1}', '{"a":1,"a":2}', '{"a":1,"b":2,"a":3}', '{"":1,"":2}', r'{"\"":1,"\"":2}',
                     '[{"a":1,"a":1}]', '{"b":{"a":1,"a":1}}', '{"a":1, "a" :1}', '{"a":{},"a":[]}'):
            self.refuses(text)

    def test_a_name_again_in_another_record(self):
        self.keeps('{"a":{"a":{"a":1}}}')
        self.keeps('[{"a":1},{"a":1}]')
        self.keeps('{"a":{"b":1},"b":{"a":1,"b":2}}')

    def test_refused(self):
        for text in ("{", "}", "{,}", '{"a"}', '{"a":}', '{"a":1,}', '{,"a":1}', '{"a":1,,"b":2}', '{"a":1"b":2}',
                     '{"a":1 "b":2}', '{"a" 1}', '{"a"::1}', '{"a",1}', '{"a":1', '{"a":1,', '{"a":', '{"a"', '{"a":1]',
                     '{"a":[}', '{"a":1}}', "{1:2}", "{a:1}", "{null:1}", "{[]:1}", "{{}:1}", "{:1}", "{1}", "{[]}",
                     "{]", '{"a":1:2}', '{"a":1;"b":2}', "{-1:2}", '{"a":1,"b"}', '{"a":1,2}',
                     '{a":1}', '{ab":1}', '{1":1}', '{:":1}', '{,":1}', '{\\":1}', '{"a":1,b":2}', '{a"":1}'):
            self.refuses(text)


class Sizes(FormCase):

    def test_depth_40_is_a_value_and_41_is_none(self):
        shapes = (("[", "", "]"), ('{"a":', "{}", "}"), ("[", "0", "]"), ('{"a":', "null", "}"))
        for start, middle, end in shapes:
            own = 1 if middle == "{}" else 0
            self.keeps(start * (40 - own) + middle + end * (40 - own))
            self.refuses(start * (41 - own) + middle + end * (41 - own))

    def test_depth_of_both_mixed(self):
        self.keeps('[{"a":' * 20 + "1" + "}]" * 20)
        self.refuses("[" + '[{"a":' * 20 + "1" + "}]" * 20 + "]")
        self.keeps('{"a":[' * 19 + '{"a":[]}' + "]}" * 19)
        self.refuses('{"a":[' * 20 + "[]" + "]}" * 20)
        self.refuses('{"a":[' * 20 + "{}" + "]}" * 20)

    def test_depth_counts_what_is_open_and_not_what_was(self):
        deep = "[" * 39 + "]" * 39
        self.keeps("[" + ",".join([deep] * 5) + "]")
        self.refuses("[" + deep + ",[" + deep + "]]")
        self.keeps("[" + ",".join(["[]"] * 100) + "]")

    def test_very_deep_is_refused_and_nothing_worse(self):
        for text in ("[" * 4096, "[" * 2048 + "]" * 2048, '{"":' * 1024, "[" * 5000, "-" * 4096, "{" * 4096):
            self.refuses(text)

    # Values of just so many bytes, from 8 on, each its own form.
    def forms_of(self, count):
        listed = "[" + "1," * ((count - 4) // 2) + "1" * (2 + count % 2) + "]"
        return ('"' + "a" * (count - 2) + '"', '{"' + "n" * (count - 6) + '":1}', listed)

    def rows_with_blanks(self, count):
        return ((" " * (count - 1) + "1", "1"), ("1" + "\n" * (count - 1), "1"), ("-" + "\t" * (count - 2) + "1", "-1"),
                ("[" + "\r" * (count - 2) + "]", "[]"), ("{" + " " * (count - 2) + "}", "{}"))

    def test_4096_bytes_may_be_read(self):
        for count in (8, 9, 4095, 4096):
            for text in self.forms_of(count):
                self.assertEqual(len(text), count)
                self.keeps(text)
            for text, expected in self.rows_with_blanks(count):
                self.assertEqual(len(text), count)
                self.gives(text, expected)

    def test_4097_to_5000_bytes_are_refused(self):
        for count in (4097, 4098, 4500, 4999, 5000):
            for text in self.forms_of(count):
                self.assertEqual(len(text), count)
                self.refuses(text)
            for text, expected in self.rows_with_blanks(count):
                self.assertEqual(len(text), count)
                self.refuses(text)


class WhatHolds(FormCase):

    SAMPLES = ("null", " [ 1 , - 2 ] ", '{"b":[{"y":1,"x":"\\\\\\""}],"a":{"":null}}', "[1,]", "", '{"a":1,"a":2}')

    def test_the_form_of_a_form_is_the_same(self):
        for text in self.SAMPLES:
            first = answer(text)
            if first != REFUSED:
                self.assertEqual(form(first[1:]), first)

    def test_what_is_handed_in_stays(self):
        for text in self.SAMPLES:
            row = row_of(text)
            form(row)
            self.assertEqual(row, row_of(text))

    def test_calls_keep_nothing(self):
        firsts = [answer(text) for text in self.SAMPLES]
        seconds = [answer(text) for text in reversed(self.SAMPLES)]
        self.assertEqual(firsts, list(reversed(seconds)))

    def test_an_answer_is_a_new_list(self):
        for text in ("[]", "x"):
            row = row_of(text)
            first = form(row)
            first.append(1)
            self.assertEqual(row, row_of(text))
            self.assertNotEqual(form(row), first)

    def test_answers_are_lists_of_whole_numbers(self):
        for text in self.SAMPLES + ("true", "false", "0", "1", "[true,1,false,0]"):
            found = answer(text)
            self.assertIs(type(found), list)
            self.assertTrue(all(type(number) is int for number in found), text)

    def test_nothing_is_printed(self):
        out, errors = io.StringIO(), io.StringIO()
        with contextlib.redirect_stdout(out), contextlib.redirect_stderr(errors):
            for text in self.SAMPLES:
                answer(text)
        self.assertEqual(out.getvalue() + errors.getvalue(), "")

    def test_truths_are_not_numbers(self):
        self.keeps("[true,1,false,0]")
        self.keeps('{"a":true,"b":1}')


TOKENS = re.compile(r'"(?:[ !#-\[\]-~]|\\["\\])*"|-[ \t\n\r]*(?:0|[1-9][0-9]*)|0|[1-9][0-9]*|null|true|false|[\[\]{},:]')
GAPS = re.compile(r"[ \t\n\r]*")


class Unfit(Exception):
    pass


def fields_once(pairs):
    if len(dict(pairs)) != len(pairs):
        raise Unfit()
    return dict(pairs)


def fit_number(digits):
    number = int(digits)
    if digits == "-0" or abs(number) >= 2 ** 53:
        raise Unfit()
    return number


def depth_of(value):
    if isinstance(value, dict):
        value = list(value.values())
    if not isinstance(value, list):
        return 0
    return 1 + max([depth_of(inner) for inner in value], default=0)


def tokens_of(text):
    tokens = []
    place = GAPS.match(text).end()
    while place < len(text):
        found = TOKENS.match(text, place)
        if found is None:
            raise Unfit()
        token = found.group()
        tokens.append("-" + token[1:].strip() if token[0] == "-" else token)
        place = GAPS.match(text, found.end()).end()
    return tokens


def expected_answer(text):
    """What form answers, found another way: by Python's own reader and writer of a likeness of values."""
    try:
        value = json.loads(" ".join(tokens_of(text)), object_pairs_hook=fields_once, parse_int=fit_number)
    except (Unfit, json.JSONDecodeError):
        return REFUSED
    if depth_of(value) > 40:
        return REFUSED
    return [0] + row_of(json.dumps(value, sort_keys=True, separators=(",", ":")))


class AllShortRows(unittest.TestCase):

    def compare(self, pieces, most, values):
        read = 0
        for count in range(most + 1):
            for chosen in itertools.product(pieces, repeat=count):
                text = "".join(chosen)
                found = answer(text)
                self.assertEqual(found, expected_answer(text), repr(text))
                read += found != REFUSED
        # So that the rows aren't all refused by some slip of this test.
        self.assertGreaterEqual(read, values)

    def test_of_signs(self):
        self.compare(("[", "]", "{", "}", ",", ":", '"', "\\", "-", "0", "1", " "), 4, 100)

    def test_of_pieces(self):
        self.compare(("[", "]", "{", "}", ",", '"b":', '"a":- 1', "2"), 6, 40)

    def test_of_fields(self):
        fields = ('"a":1', '"b":[]', '"":{"b":1,"a":2}', '"a b" : " "', '"A":-1', r'"\\":"\""')
        for count in range(5):
            for chosen in itertools.product(fields, repeat=count):
                for text in ("{" + ",".join(chosen) + "}", "[{" + " , ".join(chosen) + "}]"):
                    self.assertEqual(answer(text), expected_answer(text), text)


if __name__ == "__main__":
    unittest.main()
