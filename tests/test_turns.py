"""run: the turns that each part costs, what is given when they run out (8), and how large what is made may be (2)."""

import unittest

from running import ENOUGH, RunCase, answer


class Costs(RunCase):

    def test_parts_alone(self):
        for program in (".", "1", '"a"', "null", "true", "false", "[]", "{}", "$x", "empty", "error", "not", "length", "keys",
                        "kind", "sort", "form", "value", "(1)", "((1))"):
            self.costs(1, program)

    def test_entries(self):
        # The part, the dot, and going on to the entry.
        self.costs(3, ".a")
        self.costs(3, ".a", "5")
        self.costs(5, ".a.b")
        self.costs(3, "..a")
        self.costs(2, "empty.a")
        # The part, the key, going on, the dot, going on.
        self.costs(5, ".[0]")
        self.costs(3, ".[null]")
        self.costs(10, ".[0,1]")
        self.costs(8, "(.,.)[0]")
        self.costs(2, ".[empty]")
        self.costs(5, ".[0]", "5")

    def test_all_entries(self):
        self.costs(3, ".[]", "[]")
        self.costs(4, ".[]", "[5]")
        self.costs(6, ".[]", "[5,6,7]")
        self.costs(5, ".[]", '{"a":1,"b":2}')
        self.costs(3, ".[]", "5")
        # [5] and [6]: the outer part, the inner one with its two values, going on twice, a value each.
        self.costs(1 + 5 + 2 + 2, ".[][]", "[[5],[6]]")

    def test_what_passes_errors_over(self):
        self.costs(2, "1?")
        self.costs(2, "error?")
        self.costs(3, "1??")

    def test_lists_and_records(self):
        self.costs(2, "[1]")
        self.costs(4, "[1,2]")
        self.costs(2, "[empty]")
        # The field, the record without fields, going on, the name, going on, the value, going on.
        self.costs(7, "{a:1}")
        self.costs(7, '{"a":1}')
        self.costs(7, '{("a"):1}')
        self.costs(13, "{a:1,b:2}")
        self.costs(13, "{a:1,a:2}")
        self.costs(6, "{a:empty}")
        self.costs(4, "{(empty):1}")
        self.costs(5, "{(1):1}")
        self.costs(10, "{a:(1,2)}")
        self.costs(16, "{a:(1,2),b:3}")
        # The name is worked out for each record that the fields behind give.
        self.costs(1 + 10 + 2 * 5, "{b:3,a:(1,2)}")
        self.costs(1 + 1 + 1 + 3 + 2 * 3, '{("a","b"):1}')

    def test_joining(self):
        self.costs(4, "1|2")
        self.costs(7, "1|2|3")
        self.costs(2, "empty|1")
        self.costs(1 + 3 + 2 * 2, "(1,2)|3")
        self.costs(3, "1,2")
        self.costs(5, "1,2,3")
        self.costs(2, "error,1")
        self.costs(2, "1//2")
        self.costs(3, "null//2")
        self.costs(3, "error//2")
        self.costs(5, "null//null//2")
        self.costs(3, "1 or 2")
        self.costs(5, "null or 2")
        self.costs(3, "null and 2")
        self.costs(5, "1 and 2")
        self.costs(1 + 1 + 1 + 5 + 1, "null or null or 2")

    def test_operators(self):
        for sign in ("+", "-", "*", "/", "%", "==", "!=", "<", "<=", ">", ">="):
            self.costs(5, "1" + sign + "2")
            self.costs(2, "empty" + sign + "2")
            self.costs(4, "1" + sign + "empty")
            self.costs(1 + 3 + 2 * (1 + 3 + 2), "(1,2)" + sign + "(3,4)")
        self.costs(9, "1+2+3")
        self.costs(9, "1*2+3")
        self.costs(9, "1+2*3")
        self.costs(5, '1+"a"')
        self.costs(5, "1/0")
        self.costs(3, "-1")
        self.costs(5, "--1")
        self.costs(3, "-null")

    def test_if_and_let(self):
        self.costs(4, "if 1 then 2 else 3 end")
        self.costs(4, "if null then 2 else 3 end")
        self.costs(1 + 3 + 2 * 2, "if 1,2 then 3 else 4 end")
        self.costs(2, "if empty then 3 else 4 end")
        self.costs(4, "let $x=1 in $x")
        self.costs(1 + 3 + 2 * 2, "let $x=1,2 in $x")

    def test_fold(self):
        # The part, the list, the start, going on from it; then for each of the list going on and the last part.
        self.costs(1 + 3 + 1 + 1 + 2 * 2, "fold(1,2;$x;0;$x)")
        self.costs(1 + 1 + 1 + 1, "fold(empty;$x;0;$x)")
        self.costs(1 + 1 + 1, "fold(1;$x;empty;$x)")
        self.costs(2, "fold(error;$x;0;$x)")
        self.costs(1 + 3 + 3 + 2 * (1 + 2 * 2), "fold(1,2;$x;0,1;$x)")
        self.costs(1 + 3 + 1 + 1 + 2, "fold(1,2;$x;0;error)")

    def test_words_that_ask(self):
        self.costs(3, "select(1)")
        self.costs(3, "select(null)")
        self.costs(1 + 3 + 2, "select(1,2)")
        self.costs(2, "first(1)")
        self.costs(4, "first(1,2)")
        self.costs(4, "first(1,error)")
        self.costs(3, "has(0)")
        self.costs(3, "has(null)")
        self.costs(1 + 3 + 2, "has(0,1)")

    def test_places(self):
        self.costs(3, "path(.)")
        self.costs(5, "path(.a)")
        self.costs(1 + 5 + 2, "path(.[])", "[5,6]")
        self.costs(2, "path(1)")
        self.costs(2, "path(path(.))")
        self.costs(2, "path(.=1)")
        self.costs(2, "path(.|=1)")
        self.costs(2, "path(del(.))")
        self.costs(2, "path(fold(1;$x;2;3))")
        self.costs(1 + 5, "path(1+2)")
        self.costs(1 + 7, "path({a:1})")
        self.costs(1 + 4, "path([1,2])")
        self.costs(2, "del(.)")
        self.costs(4, "del(.a)")
        self.costs(6, "del(.[])", "[5,6]")
        self.costs(2, "del(empty)")

    def test_putting(self):
        # The part, what is put, going on, then the places.
        self.costs(4, ".=1")
        self.costs(6, ".a=1")
        self.costs(1 + 3 + 2 * (1 + 3), ".a=(1,2)")
        self.costs(2, ".a=empty")
        self.costs(1 + 1 + 1 + 5, ".[]=1", "[5,6]")
        # The part, the places, then the other part at each place.
        self.costs(3, ".|=1")
        self.costs(5, ".a|=1")
        self.costs(1 + 5 + 2, ".[]|=1", "[5,6]")
        self.costs(1 + 5 + 2 * 5, ".[]|=.+1", "[5,6]")
        self.costs(2, "empty|=1")
        self.costs(1 + 5 + 1, ".[]|=error", "[5,6]")


class RunningOut(RunCase):

    def out(self, turns, program, value, *given):
        self.ends(8, program, value, given, turns)

    def test_no_turns_at_all(self):
        for program in ("1", "error", "empty", ".a=1", "[]", "1?", "1//2", "first(1)"):
            self.out(0, program, "null")

    def test_what_was_given_before_is_given(self):
        self.out(2, "1,2", "null", "1")
        self.out(1, "1,2", "null")
        self.out(4, "1,2,3", "null", "1", "2")
        self.out(3, ".[]", "[5,6]")
        self.out(4, ".[]", "[5,6]", "5")
        self.ends(0, ".[]", "[5,6]", ("5", "6"), 5)
        self.out(5, "(1,2)|3", "null")
        self.out(6, "(1,2)|3", "null", "3")
        self.out(7, "(1,2)|3", "null", "3")
        self.ends(0, "(1,2)|3", "null", ("3", "3"), 8)
        self.out(5, "select(1,2),3", "null")
        self.out(6, "select(1,2),3", "null", "null")
        self.out(7, "select(1,2),3", "null", "null", "null")

    def test_what_the_first_part_gave_is_not_gone_on_with(self):
        self.out(4, "(1,2,3)|.", "null")
        self.out(6, "(1,2,3)|.", "null")
        self.out(8, "(1,2,3)|.", "null", "1")
        self.out(5, "(1,2)+3", "null")
        self.out(7, "(1,2)+3", "null", "4")

    def test_it_cannot_be_passed_over(self):
        self.out(3, "(1,2)?", "null", "1")
        self.out(2, "1?,2", "null")
        self.out(3, "1?,2", "null", "1")
        self.out(3, "(1,2)//3", "null", "1")
        self.out(3, "(null,2)//3", "null")
        self.out(4, "(null,null)//3", "null")
        self.out(2, "null//3", "null")

    def test_where_all_is_wanted_nothing_is_given(self):
        self.out(3, "[1,2]", "null")
        self.out(3, "first(1,2)", "null")
        self.out(4, "first(1,2,3)", "null")
        self.out(5, "del(.[])", "[5,6]")
        self.out(7, ".[]=1", "[5,6]")
        self.out(7, ".[]|=1", "[5,6]")
        self.out(6, ".[]|=1", "[5,6]")
        self.out(2, ".|=(1,2)", "null")
        self.out(4, ".|=(1,2)", "null")
        self.ends(0, ".|=(1,2)", "null", ("1",), 5)
        self.out(7, "fold(1,2;$x;0;(3,4))", "null")
        self.out(13, "fold(1,2;$x;0;(3,4))", "null")
        self.ends(0, "fold(1,2;$x;0;(3,4))", "null", ("3",), 14)
        self.out(3, "fold(1,2;$x;0;(3,4))", "null")

    def test_each_part_that_gives_some_first(self):
        self.out(9, "{a:(1,2)}", "null", '{"a":1}')
        self.out(4, "path(.,.)", "null")
        self.out(5, "path(.,.)", "null", "[]")
        self.out(9, ".[0,1]", "[5,6]", "5")
        self.out(11, ".a=(1,2)", "null", '{"a":1}')
        self.out(7, "if 1,2 then 3 else 4 end", "null", "3")
        self.out(7, "let $x=1,2 in $x", "null", "1")
        self.out(5, "has(0,1)", "[5]", "true")

    def test_with_more_turns_what_was_done_is_the_same(self):
        programs = ("[.[]|.+1],(.[]|select(.>1)),del(.[0])", "{a:.[],b:(1,2)}|.a", "fold(.[];$x;(0,1);.+$x)|.,.",
                    "(.[]|=.*2)|(.[0,1]=(7,8)),path(.[])", "(.[]|1/(.-2)),5", "first(.[]|error//.),(1,2,null//3)?")
        for program in programs:
            whole = answer(program, "[1,2,3]")
            before = []
            for turns in range(200):
                found = answer(program, "[1,2,3]", turns)
                if found[0] == 8:
                    self.assertEqual(found[1:][:len(before)], before, (program, turns))
                    self.assertEqual(whole[1:][:len(found) - 1], found[1:], (program, turns))
                    before = found[1:]
                else:
                    self.assertEqual(found, whole, (program, turns))
            self.assertNotEqual(whole[0], 8)

    def test_all_turns_may_be_spent(self):
        value = "[" + "1," * 999 + "1]"
        program = "[.[]|.,.,.]|length"
        # Each of the thousand: its value, going on, five parts.
        cost = 1 + 1 + 1 + 3 + 1000 * 7 + 2
        self.ends(0, program, value, ("3000",), cost)
        self.ends(8, program, value, (), cost - 1)
        self.assertEqual(answer("[.[]|.,.,.,.,.]|length", value)[0], 8)
        self.assertEqual(ENOUGH, 10000)
        # 2,000 dots with the pipes between them: a turn for each, and for each pipe's going on.
        self.ends(0, "." + "|." * 2000, "5", ("5",), 6001)
        self.ends(8, "." + "|." * 2000, "5", (), 6000)


class Sizes(RunCase):

    def test_texts(self):
        text = '"' + "a" * 4094 + '"'
        self.gives('(.+"b")|length', text, "4095")
        self.stops(2, '.+"bc"', text)
        self.stops(2, ".+.", text)
        self.gives('.+""', text, text)

    def test_lists(self):
        value = "[" + "1," * 2046 + "1]"
        self.gives(".+.|length", value, "4094")
        self.gives(".+.+[1]|length", value, "4095")
        self.stops(2, ".+.+[1,2]", value)
        self.stops(2, ".+.+[[1]]", value)
        self.stops(2, '.+.+["a"]', value)
        self.gives('.+.+[""]|length', value, "4095")
        self.stops(2, "[.,.]", value)
        self.gives("[.]|length", value, "1")
        self.stops(2, "[.+.+[1]]", value)

    def test_records(self):
        text = '"' + "a" * 2045 + '"'
        # The record, two names of one byte, two texts.
        self.gives("{a:.,b:.}|length", text, "2")
        self.gives('{aa:.,b:.}|length', text, "2")
        self.stops(2, "{aa:.,bb:.}", text)
        self.stops(2, "{a:.,b:.}|.c=null", text)
        self.gives('{a:.}+{b:.}|.[""]=null|length', text, "3")
        self.stops(2, '{a:.}+{b:.}+{c:1}', text)
        self.gives("{a:.}+{a:.}+{a:.}|length", text, "1")
        self.stops(2, "{(.):.}|{(.[]):.}", text)

    def test_numbers_count_one_however_long(self):
        value = "[" + "9007199254740991," * 200 + "1]"
        self.gives(".+.+.+.+.+.+.+.+.+.+.|length", value, "2211")

    def test_depth(self):
        deepest = "[" * 40 + "]" * 40
        self.gives(".", deepest, deepest)
        self.stops(2, "[.]", deepest)
        self.stops(2, "{a:.}", deepest)
        self.gives("[.[]]", deepest, deepest)
        self.stops(2, ".[0]=.", deepest)
        self.gives(".+.|length", deepest, "2")
        self.stops(2, "{a:1,b:.}", '{"a":' * 40 + "1" + "}" * 40)
        forty = ",".join(["0"] * 40)
        self.gives("fold(.[];$x;0;[.])", "[" + forty + "]", "[" * 40 + "0" + "]" * 40)
        self.stops(2, "fold(.[];$x;[];[.])", "[" + forty + "]")
        self.stops(2, "fold(.[];$x;{};{a:.})", "[" + forty + "]")
        self.stops(2, "[" * 40 + "[]" + "]" * 40)
        self.gives("[" * 40 + "0" + "]" * 40, "null", "[" * 40 + "0" + "]" * 40)

    def test_depth_of_what_lies_deepest(self):
        for leaf, own in (("null", 0), ("true", 0), ("false", 0), ("7", 0), ('"a"', 0), ("[]", 1), ("{}", 1), ("[{}]", 2),
                          ('{"a":[]}', 2), ('[1,{"a":"b"}]', 2), ('[[],{"a":[null]},0]', 3)):
            for front, behind in (("[", "]"), ('{"a":', "}")):
                deepest = front * (40 - own) + leaf + behind * (40 - own)
                inner = front * (39 - own) + leaf + behind * (39 - own)
                made = "[.]" if front == "[" else "{a:.}"
                self.gives(made, inner, deepest)
                self.stops(2, made, deepest)

    def test_what_is_not_made_may_be_as_it_is(self):
        self.gives(".[0]", "[" + '"' + "a" * 4090 + '"' + "]", '"' + "a" * 4090 + '"')
        self.gives("sort|length", "[" + "1," * 2046 + "1]", "2047")
        self.gives("keys|length", "[" + "1," * 2046 + "1]", "2047")


if __name__ == "__main__":
    unittest.main()
