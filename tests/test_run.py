"""run: what each part of a program gives, of values and of errors 1 to 5, and how what is given ends."""

import contextlib
import io
import itertools
import unittest

from running import RunCase, answer, row_of

from valuetwigs.twigs import form, run

# One of each kind and more, in order.
IN_ORDER = ("null", "false", "true", "-9007199254740991", "-2", "-1", "0", "1", "2", "10", "9007199254740991",
            '""', '" "', '"10"', '"9"', '"A"', '"a"', '"aa"', '"ab"', '"b"', '"~"',
            "[]", "[null]", "[null,null]", "[false]", "[0]", "[0,5]", "[1]", '[""]', "[[]]", "[[],0]", "[[0]]", "[{}]",
            "{}", '{"":0}', '{"a":null}', '{"a":1}', '{"a":1,"b":0}', '{"a":1,"b":{}}', '{"a":1,"c":0}', '{"a":2}',
            '{"a":[]}', '{"a":[0]}', '{"a":{}}', '{"aa":0}', '{"b":0}')

KINDS = {"null": ("null",), "truth": ("true", "false"), "number": ("0", "-5"), "text": ('""', '"ab"'),
         "list": ("[]", "[1,2]"), "record": ("{}", '{"a":1}')}


def values_but(*kinds):
    return [value for kind in KINDS if kind not in kinds for value in KINDS[kind]]


class Plain(RunCase):

    def test_what_there_is(self):
        for value in IN_ORDER:
            self.gives(".", value, value)
        self.gives(".", ' { "b" : 1 , "a" : - 2 } ', '{"a":-2,"b":1}')

    def test_literals(self):
        for value in ("null", "true", "false", "0", "12", '""', '"a\\"\\\\"', "[]", "{}"):
            for there in ("null", "5", "[1]"):
                self.gives(value, there, value)

    def test_variables(self):
        self.gives("let $x = 5 in $x", "null", "5")
        self.gives("let $x = 5 in let $x = 6 in $x", "null", "6")
        self.gives("(let $x = 5 in let $x = 6 in $x),7", "null", "6", "7")
        self.gives("let $x = 5 in (let $x = 6 in $x),$x", "null", "6", "5")
        self.gives("let $x = 5 in let $y = 6 in [$x,$y]", "null", "[5,6]")
        self.gives("let $x = 1 in let $x = $x + 1 in $x", "null", "2")
        self.stops(1, "$x")
        self.stops(1, "let $x = 5 in $y")
        self.stops(1, "let $x = $x in 5")
        self.stops(1, "(let $x = 5 in $x),$x", "null", "5")
        self.gives("$x?", "null")

    def test_words_that_give_nothing(self):
        self.gives("empty", "5")
        self.stops(4, "error", "5")


class Entries(RunCase):

    def test_names(self):
        self.gives(".a", '{"a":5}', "5")
        self.gives(".a", '{"b":5}', "null")
        self.gives(".a", "null", "null")
        self.gives(".a.b", '{"a":{"b":[1]}}', "[1]")
        self.gives(".a.b.c", '{"b":5}', "null")
        self.gives("(.,.b).a", '{"a":1,"b":{"a":2}}', "1", "2")
        for value in values_but("null", "record"):
            self.stops(1, ".a", value)
        self.stops(1, "({a:1},2,{a:3}).a", "null", "1")

    def test_keys(self):
        self.gives(".[0]", "[5,6]", "5")
        self.gives(".[1]", "[5,6]", "6")
        self.gives(".[2]", "[5,6]", "null")
        self.gives(".[9007199254740991]", "[5,6]", "null")
        self.gives('.["a b"]', '{"a b":7}', "7")
        self.gives('.["a"]', "{}", "null")
        self.gives('.[0,"a",7]', "null", "null", "null", "null")
        self.stops(1, ".[0]", "{}")
        self.stops(1, '.["a"]', "[]")
        for value in values_but("null", "record", "list"):
            self.stops(1, ".[0]", value)
            self.stops(1, '.["a"]', value)

    def test_what_is_no_key(self):
        for key in ("null", "true", "false", "-1", "[]", "{}", "[0]"):
            for value in ("null", "[5]", '{"a":5}', "5"):
                self.stops(1, ".[" + key + "]", value)
            self.stops(1, "error[" + key + "]")
            self.gives("empty[empty]", "5")

    def test_a_key_is_worked_out_of_what_there_is(self):
        self.gives(".a[.b]", '{"a":[5,6],"b":1}', "6")
        self.gives(".a|.[.[0]]", '{"a":[1,6]}', "6")

    def test_for_each_key_for_each_value(self):
        self.gives("(.a,.b)[0,1]", '{"a":[1,2],"b":[3,4]}', "1", "3", "2", "4")
        self.gives("(.a,.b)[empty]", '{"a":[1,2],"b":[3,4]}')
        self.gives("empty[0]", "5")
        self.stops(1, ".[0,-1,1]", "[5,6]", "5")
        self.stops(4, ".[0,error,1]", "[5,6]", "5")
        self.stops(4, "(.,error)[0,1]", "[5,6]", "5")

    def test_all_entries(self):
        self.gives(".[]", "[3,[1],null]", "3", "[1]", "null")
        self.gives(".[]", '{"b":1,"":2,"a":[3]}', "2", "[3]", "1")
        self.gives(".[]", "[]")
        self.gives(".[]", "{}")
        self.gives(".[][]", '[[1,2],{"a":3},[]]', "1", "2", "3")
        for value in values_but("record", "list"):
            self.stops(1, ".[]", value)
        self.stops(1, ".[][]", "[[1,2],3,[4]]", "1", "2")

    def test_errors_passed_over(self):
        self.gives(".a?", "5")
        self.gives("(1,error,2)?", "null", "1")
        self.gives("(1,2)?", "null", "1", "2")
        self.gives("[.[]|.a?]", '[{"a":1},2,{"a":3}]', "[1,3]")
        self.gives("(1/0)?,5", "null", "5")
        for stopping in ("1.a", "9007199254740991+1", "1/0", "error", ".|=empty", "(1|.a=2)", "path(1)"):
            self.gives("(7," + stopping + ")?", "null", "7")


class Making(RunCase):

    def test_lists(self):
        self.gives("[.]", "5", "[5]")
        self.gives("[.[],.[]]", "[1,2]", "[1,2,1,2]")
        self.gives("[empty]", "5", "[]")
        self.gives("[[1],[]]", "null", "[[1],[]]")
        self.stops(4, "[1,error]")
        self.stops(4, "7,[1,error]", "null", "7")
        self.stops(1, "[1,.a]", "5")
        self.gives("[1,error]?", "null")

    def test_records(self):
        self.gives("{}", "5", "{}")
        self.gives('{b:1,a:2,"":3}', "null", '{"":3,"a":2,"b":1}')
        self.gives("{a:.}", "5", '{"a":5}')
        self.gives("{a:{b:.}}", "5", '{"a":{"b":5}}')
        self.gives("{(.[]):1}", '["x","y"]', '{"x":1}', '{"y":1}')
        self.gives("{a:empty}", "null")
        self.gives("{(empty):1}", "null")

    def test_for_each_record_behind_for_each_name_for_each_value(self):
        self.gives('{("a","b"):(1,2)}', "null", '{"a":1}', '{"a":2}', '{"b":1}', '{"b":2}')
        self.gives("{a:(1,2),b:(3,4)}", "null", '{"a":1,"b":3}', '{"a":2,"b":3}', '{"a":1,"b":4}', '{"a":2,"b":4}')
        self.gives('{("a","b"):(1,2),c:(3,4)}', "null",
                   '{"a":1,"c":3}', '{"a":2,"c":3}', '{"b":1,"c":3}', '{"b":2,"c":3}',
                   '{"a":1,"c":4}', '{"a":2,"c":4}', '{"b":1,"c":4}', '{"b":2,"c":4}')

    def test_the_last_of_a_name_counts(self):
        self.gives("{a:1,a:2}", "null", '{"a":2}')
        self.gives("{a:1,b:3,a:2}", "null", '{"a":2,"b":3}')
        self.gives('{a:(1,2),"a":3}', "null", '{"a":3}', '{"a":3}')
        self.gives('{a:1,("a","b"):2}', "null", '{"a":2}', '{"a":1,"b":2}')
        self.stops(4, "{a:error,a:2}")

    def test_errors(self):
        for name in ("null", "true", "1", "[]", "{}", '["a"]'):
            self.stops(1, "{(" + name + "):1}")
            self.stops(1, "{(" + name + "):error}")
        self.stops(1, '{("a",1,"b"):2}', "null", '{"a":2}')
        self.stops(4, "{a:(1,error,2)}", "null", '{"a":1}')
        self.stops(4, "{a:1,b:(2,error)}", "null", '{"a":1,"b":2}')
        self.stops(3, "{a:error,b:1/0}")
        self.stops(4, '{("a",error):(1,2)}', "null", '{"a":1}', '{"a":2}')


class Joining(RunCase):

    def test_pipes(self):
        self.gives("1|2", "null", "2")
        self.gives(".[]|.+1", "[1,2]", "2", "3")
        self.gives("(1,2)|(.,.*10)", "null", "1", "10", "2", "20")
        self.gives("empty|error", "null")
        self.stops(4, "1|error")
        self.stops(4, "(1,2)|.,error", "null", "1")
        self.stops(1, ".[]|.a", '[{"a":1},2,{"a":3}]', "1")

    def test_the_first_part_is_worked_out_wholly(self):
        self.stops(4, "(1,2,error)|.*10", "null", "10", "20")
        self.stops(3, "(1,0,error)|6/.", "null", "6")
        self.stops(4, "(empty,error)|.", "null")

    def test_both(self):
        self.gives("1,2,3", "null", "1", "2", "3")
        self.gives("empty,1,empty", "null", "1")
        self.gives(".,.", "5", "5", "5")
        self.stops(4, "1,error,2", "null", "1")
        self.stops(4, "error,1", "null")

    def test_alternatives(self):
        self.gives("1//2", "null", "1")
        self.gives("null//2", "null", "2")
        self.gives("false//2", "null", "2")
        self.gives("empty//2", "null", "2")
        self.gives("0//2", "null", "0")
        self.gives('""//2', "null", '""')
        self.gives("(null,1,false,2)//3", "null", "1", "2")
        self.gives("(null,false)//(3,4)", "null", "3", "4")
        self.gives("(1,error)//2", "null", "1")
        self.gives("(null,error)//2", "null", "2")
        self.gives("error//2", "null", "2")
        self.gives("null//false", "null", "false")
        self.gives("null//null//null", "null", "null")
        self.gives("null//empty", "null")
        self.gives("1//error", "null", "1")
        self.stops(4, "null//error", "null")
        self.stops(4, "null//(1,error)", "null", "1")

    def test_or_and_and(self):
        for front, behind in itertools.product(("null", "false", "true", "0", '""', "[]", "{}"), repeat=2):
            one, other = (side not in ("null", "false") for side in (front, behind))
            self.gives(front + " or " + behind, "null", "true" if one or other else "false")
            self.gives(front + " and " + behind, "null", "true" if one and other else "false")
        self.gives("1 or error", "null", "true")
        self.gives("null and error", "null", "false")
        self.stops(4, "null or error")
        self.stops(4, "1 and error")
        self.gives("(1,null,2) or (null,3)", "null", "true", "false", "true", "true")
        self.gives("(1,null,2) and (null,3)", "null", "false", "true", "false", "false", "true")
        self.gives("empty or 1", "null")
        self.gives("null or empty", "null")
        self.gives("1 or empty", "null", "true")
        self.gives("1 and empty", "null")
        self.stops(4, "(1,error) or 2", "null", "true")

    def test_choices(self):
        self.gives("if . then 1 else 2 end", "null", "2")
        self.gives("if . then 1 else 2 end", "false", "2")
        for value in ("true", "0", '""', "[]", "{}"):
            self.gives("if . then 1 else 2 end", value, "1")
        self.gives("if 1,null,2 then .,3 else 4 end", "5", "5", "3", "4", "5", "3")
        self.gives("if empty then 1 else 2 end", "null")
        self.gives("if 1 then 2 else error end", "null", "2")
        self.stops(4, "if 1 then error else 2 end")
        self.stops(4, "if 1,error,2 then 3 else 4 end", "null", "3")

    def test_lets(self):
        self.gives("let $x=(1,2) in $x,$x*10", "null", "1", "10", "2", "20")
        self.gives("let $x=. in 5|.+$x", "3", "8")
        self.gives("let $x=empty in 1", "null")
        self.gives("let $x=1 in .", "7", "7")
        self.stops(4, "let $x=(1,error) in $x", "null", "1")
        self.stops(3, "let $x=(1,0,error) in 6/$x", "null", "6")


class Operators(RunCase):

    def test_for_each_first_for_each_second(self):
        self.gives("(1,2)+(10,20)", "null", "11", "21", "12", "22")
        self.gives("(1,2)-empty", "null")
        self.gives("empty+error", "null")
        self.stops(4, "(1,2)+(10,error)", "null", "11")
        self.stops(4, "(1,error)+(10,20)", "null", "11", "21")
        self.stops(1, '(1,2)+(10,"a",20)', "null", "11")

    def test_adding(self):
        self.gives("2+3", "null", "5")
        self.gives("2+.", "-5", "-3")
        self.gives('"a"+"bc"', "null", '"abc"')
        self.gives("[1]+[2,1]", "null", "[1,2,1]")
        self.gives("{a:1,b:2}+{b:3,c:4}", "null", '{"a":1,"b":3,"c":4}')
        self.gives("{a:{b:1}}+{a:{c:2}}", "null", '{"a":{"c":2}}')
        for value in IN_ORDER:
            self.gives(".+null", value, value)
            self.gives("null+.", value, value)

    def test_adding_what_does_not_fit(self):
        for front, behind in itertools.permutations(KINDS, 2):
            if "null" not in (front, behind):
                for one, other in itertools.product(KINDS[front], KINDS[behind]):
                    self.stops(1, ".[0]+.[1]", "[" + one + "," + other + "]")
        self.stops(1, "true+true")

    def test_taking_away(self):
        self.gives("2-3", "null", "-1")
        self.gives("[1,2,3,2,1]-[2,4]", "null", "[1,3,1]")
        self.gives("[1,[2],{a:3},null,true,\"1\"]-[[2],{a:3},true]", "null", '[1,null,"1"]')
        self.gives("[1,true,\"\",[],{},null,false,0]-[false,\"\",{}]", "null", "[1,true,[],null,0]")
        self.gives("[]-[1]", "null", "[]")
        self.gives("[1]-[]", "null", "[1]")
        for one, other in itertools.product(values_but(), repeat=2):
            if not any(one in KINDS[kind] and other in KINDS[kind] for kind in ("number", "list")):
                self.stops(1, ".[0]-.[1]", "[" + one + "," + other + "]")

    def test_multiplying_and_dividing(self):
        self.gives("6*7", "null", "42")
        self.gives("0*.", "-5", "0")
        self.gives("-6*7", "null", "-42")
        for front, behind, quotient, rest in ((7, 2, 3, 1), (-7, 2, -3, -1), (7, -2, -3, 1), (-7, -2, 3, -1), (6, 3, 2, 0),
                                              (-6, 3, -2, 0), (0, 5, 0, 0), (0, -5, 0, 0), (1, 5, 0, 1), (-1, 5, 0, -1),
                                              (9007199254740991, -1, -9007199254740991, 0),
                                              (-9007199254740991, 2, -4503599627370495, -1)):
            value = "[%d,%d]" % (front, behind)
            self.gives(".[0]/.[1]", value, str(quotient))
            self.gives(".[0]%.[1]", value, str(rest))
        for sign in "*/%":
            for one, other in itertools.product(values_but(), repeat=2):
                if not (one in KINDS["number"] and other in KINDS["number"]):
                    self.stops(1, ".[0]" + sign + ".[1]", "[" + one + "," + other + "]")

    def test_by_zero(self):
        for sign in "/%":
            self.stops(3, "1" + sign + "0")
            self.stops(3, "0" + sign + "0")
            self.stops(1, '"a"' + sign + "0")
            self.stops(1, "1" + sign + "null")
            self.stops(3, "6" + sign + "(4,0,2)", "null", "1" if sign == "/" else "2")

    def test_numbers_that_are_too_large(self):
        most = "9007199254740991"
        self.gives(most + "+0", "null", most)
        self.gives("9007199254740990+1", "null", most)
        self.gives("-9007199254740990-1", "null", "-" + most)
        self.gives("3037000499*2965820", "null", str(3037000499 * 2965820))
        self.stops(2, most + "+1")
        self.stops(2, "-" + most + "-1")
        self.stops(2, most + "*" + most)
        self.stops(2, "-" + most + "*2")
        self.stops(2, "94906266*94906266")
        self.gives("94906265*94906265", "null", str(94906265 ** 2))

    def test_opposites(self):
        self.gives("-5", "null", "-5")
        self.gives("-0", "null", "0")
        self.gives("-.", "-5", "5")
        self.gives("-(1,2)", "null", "-1", "-2")
        self.gives("-empty", "null")
        self.gives("-9007199254740991", "null", "-9007199254740991")
        for value in values_but("number"):
            self.stops(1, "-.", value)
        self.stops(1, "-(1,null,2)", "null", "-1")
        self.stops(4, "-(1,error)", "null", "-1")

    def test_comparing_by_the_order(self):
        for (place, one), (other_place, other) in itertools.product(enumerate(IN_ORDER), repeat=2):
            truths = (place == other_place, place != other_place, place < other_place, place <= other_place,
                      place > other_place, place >= other_place)
            self.gives("let $a=.[0] in let $b=.[1] in [$a==$b,$a!=$b,$a<$b,$a<=$b,$a>$b,$a>=$b]", "[%s,%s]" % (one, other),
                       "[" + ",".join("true" if truth else "false" for truth in truths) + "]")

    def test_comparing_for_each(self):
        self.gives("(1,2)==(1,2)", "null", "true", "false", "false", "true")
        self.gives('{b:1,a:2}=={a:2,b:1}', "null", "true")
        self.stops(4, "1<(2,error)", "null", "true")


class Words(RunCase):

    def test_not(self):
        for value in IN_ORDER:
            self.gives("not", value, "true" if value in ("null", "false") else "false")

    def test_length(self):
        for value, length in (("null", 0), ("0", 0), ("-5", 5), ("5", 5), ("-9007199254740991", 9007199254740991), ('""', 0),
                              ('"ab\\"\\\\"', 4), ("[]", 0), ("[1,[2,3]]", 2), ("{}", 0), ('{"abc":1,"d":{"e":2}}', 2)):
            self.gives("length", value, str(length))
        for value in KINDS["truth"]:
            self.stops(1, "length", value)

    def test_keys(self):
        self.gives("keys", '{"b":1,"a":{"c":2},"":3}', '["","a","b"]')
        self.gives("keys", '["x",[],null]', "[0,1,2]")
        self.gives("keys", "[]", "[]")
        self.gives("keys", "{}", "[]")
        for value in values_but("list", "record"):
            self.stops(1, "keys", value)

    def test_kind(self):
        for kind in KINDS:
            for value in KINDS[kind]:
                self.gives("kind", value, '"' + kind + '"')

    def test_sort(self):
        for step in (1, 7, 13, 25):
            mixed = [IN_ORDER[place * step % len(IN_ORDER)] for place in range(len(IN_ORDER))]
            self.assertEqual(len(set(mixed)), len(IN_ORDER))
            self.gives("sort", "[" + ",".join(mixed) + "]", "[" + ",".join(IN_ORDER) + "]")
        self.gives("sort", "[2,1,2,null,1]", "[null,1,1,2,2]")
        self.gives("sort", "[[3,1],[2]]", "[[2],[3,1]]")
        self.gives("sort", "[]", "[]")
        for value in values_but("list"):
            self.stops(1, "sort", value)

    def test_form(self):
        for value in IN_ORDER:
            expected = '"' + value.replace("\\", "\\\\").replace('"', '\\"') + '"'
            self.gives("form", value, expected)
            self.gives("form|value", value, value)
        self.gives("form", ' { "b" : [ 1 , - 2 ] , "a" : "\\\\\\"" } ', r'"{\"a\":\"\\\\\\\"\",\"b\":[1,-2]}"')

    def test_value(self):
        self.gives("value", '" { \\"b\\" : [ 1 , - 2 ] , \\"a\\" : null } "', '{"a":null,"b":[1,-2]}')
        for text in ("", " ", "nul", "[1,]", "01", "-0", "9007199254740992", "{\\\"a\\\":1,\\\"a\\\":2}", "\\\"", "1 2", "a",
                     "[" * 41 + "]" * 41):
            self.stops(1, "value", '"' + text + '"')
        self.gives("value|length", '"' + "[" * 40 + "]" * 40 + '"', "1")
        for value in values_but("text"):
            self.stops(1, "value", value)

    def test_select(self):
        self.gives("select(.>1)", "2", "2")
        self.gives("select(.>1)", "1")
        self.gives("select(null)", "1")
        self.gives("select(0)", "1", "1")
        self.gives("select(1,null,2,false)", "7", "7", "7")
        self.gives("select(empty)", "7")
        self.gives("[.[]|select(.!=2)]", "[1,2,3]", "[1,3]")
        self.stops(4, "select(1,error,2)", "7", "7")

    def test_first(self):
        self.gives("first(1,2)", "null", "1")
        self.gives("first(null,2)", "null", "null")
        self.gives("first(1,error)", "null", "1")
        self.gives("first(empty)", "null")
        self.gives("first(.[])", "[7,8]", "7")
        self.stops(4, "first(error,1)")
        self.stops(4, "first(empty,error)")
        self.stops(1, "first(.[])", "7")

    def test_has(self):
        self.gives('has("a","b","")', '{"a":null,"c":1}', "true", "false", "false")
        self.gives("has(0,1,2,9007199254740991)", "[null,5]", "true", "true", "false", "false")
        self.gives("has(0)", '{"0":1}', "false")
        self.gives('has("0")', "[1]", "false")
        for value in values_but("list", "record"):
            self.gives('has("a",0)', value, "false", "false")
        self.gives("has(.a)", '{"a":"b","b":1}', "true")
        self.gives("has(empty)", "[]")
        for key in ("null", "true", "-1", "[]", "{}"):
            for value in values_but():
                self.stops(1, "has(" + key + ")", value)
        self.stops(1, "has(0,-1,0)", "[5]", "true")
        self.stops(4, "has(0,error)", "[5]", "true")


class Folding(RunCase):

    def test_folding(self):
        self.gives("fold(.[];$x;0;.+$x)", "[1,2,3]", "6")
        self.gives("fold(.[];$x;[];[$x]+.)", "[1,2,3]", "[3,2,1]")
        self.gives("fold(empty;$x;7;error)", "null", "7")
        self.gives("fold(1,2;$x;(0,10);.+$x)", "null", "3", "13")
        self.gives("fold(1,2;$x;empty;error)", "null")
        self.gives("fold(1;$x;2;[.,$x])", "null", "[2,1]")

    def test_what_each_part_is_worked_out_of(self):
        self.gives("fold(.a[];$x;.b;.*$x)", '{"a":[2,3],"b":5}', "30")
        self.gives("let $y=100 in fold(1,2;$x;$y;.+$x)", "null", "103")
        self.gives("let $x=100 in fold($x,2;$x;$x;.+$x),$x", "null", "202", "100")
        self.stops(1, "fold(1;$x;$x;.)")
        self.stops(1, "fold($x;$x;1;.)")
        self.stops(1, "fold(1;$x;2;.),$x", "null", "2")

    def test_only_the_first_counts(self):
        self.gives("fold(1,2;$x;0;(.+$x,100,error))", "null", "3")
        self.stops(5, "fold(1,2;$x;0;empty)")
        self.stops(5, "fold(1,2;$x;0;select($x==1))")
        self.stops(4, "fold(1,2;$x;0;error)")
        self.stops(4, "fold(1,2;$x;0;(empty,error))")
        self.gives("fold(1;$x;0;null)", "null", "null")

    def test_stops(self):
        self.stops(4, "fold((1,error);$x;0;.)")
        self.stops(4, "fold((1,error);$x;(1/0);.)")
        self.stops(4, "fold(1;$x;(0,5,error);.+$x)", "null", "1", "6")
        self.stops(3, "fold(2,0;$x;(8,6);./$x)", "null")
        self.stops(3, "fold(2;$x;(8,0,6);12/.)", "null", "1")
        self.stops(2, "fold(.[];$x;1;[.,.])", "[" + ",".join(["0"] * 30) + "]")


class Refusals(RunCase):

    LONG = " " * 4096 + "1"

    def test_their_order(self):
        for turns in (0, 5, 10000, 10001, 4294967295):
            for program in ("", "1 2", self.LONG, "(" * 41 + "1" + ")" * 41):
                for value in ("", "1", "nul", self.LONG):
                    self.assertEqual(answer(program, value, turns), [-1])
            for value in ("", "nul", self.LONG, "1 2", "[" * 41 + "]" * 41):
                for program in (".", "error", "[.,.]"):
                    self.assertEqual(answer(program, value, turns), [-2])
        for turns in (10001, 10002, 65536, 4294967295):
            self.assertEqual(answer("1", "1", turns), [-22])
            self.assertEqual(answer("let $v=. in .[]|$v", "[" + "1," * 1000 + "1]", turns), [-22])
        self.assertEqual(answer("1", "1", 10000), [0, 49, 10])

    def test_4096_bytes_of_the_value(self):
        text = '"' + "a" * 4094 + '"'
        self.gives(".", text, text)
        self.gives(".", " " * 4095 + "1", "1")
        self.assertEqual(answer(".", '"' + "a" * 4095 + '"'), [-2])
        self.assertEqual(answer(".", " " * 4096 + "1"), [-2])

    def test_65536_bytes_answered_and_no_more(self):
        # Sixteen texts of 4,095 bytes with their row's ends are 65,536 bytes.
        value = '"' + "a" * 4093 + '"'
        program = "[" + ",".join(["."] * 16) + "]|.[]"
        self.stops(2, program, value)
        program = ",".join(["."] * 16)
        self.gives(program, value, *[value] * 16)
        self.assertEqual(len(answer(program, value)), 65537)
        self.assertEqual(answer(program + ",null", value), [-28])
        self.assertEqual(answer(program + ",error", value)[0], 4)
        self.assertEqual(answer("." + "," + program, value), [-28])
        longer = '"' + "a" * 4094 + '"'
        self.assertEqual(answer(program, longer), [-28])
        self.assertEqual(answer(program + ",error", longer), [-28])
        self.assertEqual(answer(program, longer, 31)[0], -28)
        self.assertEqual(answer(program, longer, 30)[0], 8)

    def test_one_value_may_be_too_long_by_itself(self):
        # 3,640 numbers with their commas, one more number, the brackets and the row's end.
        most = "-9007199254740991"
        value = "[" + ",".join([most] * 182) + "]"
        program = "fold(.[];$x;[];.+[" + ",".join(["$x"] * 20) + "])+[.[0]|%s]"
        expected = "[" + (most + ",") * 3640 + "1234567890123]\n"
        self.assertEqual(len(expected), 65536)
        self.assertEqual(answer(program % "1234567890123", value), [0] + row_of(expected))
        self.assertEqual(answer(program % "12345678901234", value), [-28])


class WhatHolds(RunCase):

    SAMPLES = ((".a=[.]", '{"b":1}', 10000), (".[]|error", "[1]", 10000), ("[.[]|.+1]", "[1,2]", 12), ("1 2", "1", 5),
               (".", "nul", 5), (".", "1", 10001), ("del(.[0])", "[1,[2]]", 10000), ("sort", "[2,1]", 3),
               (".[]|=[.]", '{"b":[1],"a":2}', 10000))

    def test_what_is_handed_in_stays(self):
        for program, value, turns in self.SAMPLES:
            program_row, value_row = row_of(program), row_of(value)
            run(turns, program_row, value_row)
            self.assertEqual(program_row, row_of(program))
            self.assertEqual(value_row, row_of(value))

    def test_calls_keep_nothing(self):
        firsts = [answer(*sample) for sample in self.SAMPLES]
        seconds = [answer(*sample) for sample in reversed(self.SAMPLES)]
        self.assertEqual(firsts, list(reversed(seconds)))

    def test_answers_are_new_lists_of_whole_numbers(self):
        for sample in self.SAMPLES + (("true,1,false,0", "1", 100),):
            found = answer(*sample)
            self.assertIs(type(found), list)
            self.assertTrue(all(type(number) is int for number in found), sample)
            found.append(1)
            self.assertEqual(answer(*sample) + [1], found)

    def test_nothing_is_printed(self):
        out, errors = io.StringIO(), io.StringIO()
        with contextlib.redirect_stdout(out), contextlib.redirect_stderr(errors):
            for sample in self.SAMPLES:
                answer(*sample)
        self.assertEqual(out.getvalue() + errors.getvalue(), "")

    def test_what_is_given_is_in_its_form(self):
        for value in IN_ORDER:
            self.assertEqual(answer(".", " " + value + " ")[1:-1], form(row_of(value))[1:])


if __name__ == "__main__":
    unittest.main()
