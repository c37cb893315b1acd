"""How programs are written: each token, each rule of the grammar, how deep and how long they may be."""

import unittest

from running import RunCase, answer

BLANKS = (" ", "\t", "\n", "\r", "\r\n", " \t\n\r ")


class Tokens(RunCase):

    def test_nothing_at_all(self):
        self.refuses("", " ", "\n\t")

    def test_numbers(self):
        for number in ("0", "1", "9", "10", "1234567890123456", "9007199254740991"):
            self.gives(number, "null", number)
        self.refuses("00", "01", "9007199254740992", "9999999999999999", "12345678901234567", "1" * 40, "1 2", "1.5",
                     "1.", ".5", "+1", "0x1", "1e3")

    def test_no_letter_right_behind_a_number(self):
        self.refuses("1a", "1_", "1or 2", "1and 2", "0Z", "if 1then 2 else 3 end", "if 1 then 2else 3 end", "[1a]")
        self.gives("1 or 2", "null", "true")
        self.gives('if"a"then"b"else"c"end', "null", '"b"')
        self.gives("1!=2", "null", "true")
        self.takes("1.a", "1?", "1[0]")

    def test_texts(self):
        for text in ('""', '"a b"', r'"\""', r'"\\"', r'"a\"b\\c"', '"|= // $x (;)"', '"' + "~" * 4094 + '"'):
            self.gives(text, "null", text)
        self.refuses('"', '"a', r'"\a"', r'"\"', '"\n"', '"\t"', '"\x7f"', '"\xe9"', '"\x1f"', "'a'", '"a""b"')

    def test_each_byte_in_a_text(self):
        for byte in range(256):
            program = '"' + chr(byte) + '"'
            if 32 <= byte <= 126 and byte not in (34, 92):
                self.gives(program, "null", program)
            else:
                self.refuses(program)

    def test_each_byte_alone(self):
        for byte in range(256):
            found = answer(chr(byte))
            self.assertEqual(found == [-1], chr(byte) not in "0123456789.", byte)

    def test_names(self):
        for name in ("a", "Z", "_", "a1", "_9", "aB_0", "a" * 32, "if", "then", "and", "null", "fold", "empty", "path"):
            self.gives("." + name, '{"%s":5}' % name, "5")
            self.gives("let $" + name + " = 6 in $" + name, "null", "6")
            self.gives('{"' + name + '":1}.' + name, "null", "1")
        self.refuses("." + "a" * 33, "let $" + "a" * 33 + "=1 in 2", "{" + "a" * 33 + ":1}", ".a" + "b" * 32)
        self.refuses("a", "_", "nul", "nulll", "True", "Empty", "lengths", "$", "$1", "$ x", "let $ x=1 in 1", ".\xe9",
                     ".a\xe9", "let x=1 in 1", "@", "#", "&", "^", "~", "`", "!", "\\", "'", "1!2", "..", ". a", ".$a")

    def test_each_byte_in_names(self):
        for byte in range(256):
            sign = chr(byte)
            is_letter = sign == "_" or (byte < 128 and sign.isalpha())
            is_digit = byte < 128 and sign.isdigit()
            if is_letter:
                self.gives("." + sign, '{"%s":5}' % sign, "5")
            if is_letter or is_digit:
                self.gives(".x" + sign, '{"x%s":5}' % sign, "5")
                self.gives("let $x%s=5 in $x%s" % (sign, sign), "null", "5")
            elif sign not in " \t\n\r?":
                self.refuses(".x" + sign)
            self.assertEqual(answer("let $%s=5 in $%s" % (sign, sign)) != [-1], is_letter, byte)
            self.assertEqual(answer("{%s:5}" % sign) != [-1], is_letter, byte)

    def test_dots(self):
        self.gives(".", "5", "5")
        self.gives("..a", '{"a":1}', "1")
        self.gives(". .a", '{"a":1}', "1")
        self.gives(".a.b", '{"a":{"b":2}}', "2")
        self.gives(".a .b", '{"a":{"b":2}}', "2")
        self.refuses(".a. b", '."a"', ".1", "...", ".a b", ". 1")

    def test_the_longest_sign_is_taken(self):
        self.gives("4//2", "null", "4")
        self.gives("4/ 2", "null", "2")
        self.refuses("4/ /2", "4///2", "1= =1", "1! =1", ".a| =1", "1< =2", "1===1", "1<==2", "1=>2", "1=<2", "1><2", "1<>2",
                     "1&&2", "1||2", "1++2", "1**2", "1%%2", "!1", "+1", ".|==1")
        self.gives(".|=1", "null", "1")
        self.gives("1<=1", "null", "true")
        self.gives("1>=2", "null", "false")
        self.gives("1--1", "null", "2")
        self.gives("1 - - 1", "null", "2")
        self.gives("[.[]|-.]", "[1,-2]", "[-1,2]")

    def test_blanks_between_all_tokens(self):
        tokens = ["if", ".a", "<=", "-", "3", "then", "[", "]", "else", "{", "a", ":", "1", "//", "(", "2", ",", ".b", ")",
                  "[", "0", "]", "?", ",", '"b"', ":", "let", "$x", "=", "4", "in", "$x", "%", "3", "}", "|", "fold", "(",
                  ".", "[", "]", ";", "$y", ";", "0", ";", ".", "+", "$y", ")", "end"]
        for blank in BLANKS:
            self.gives(blank.join(tokens), '{"a":0}', "2")
            for place in range(len(tokens) + 1):
                program = " ".join(tokens[:place]) + blank + " ".join(tokens[place:])
                self.gives(program, '{"a":0}', "2")

    def test_no_blanks_within_tokens(self):
        for blank in BLANKS:
            for program in ("nu{}ll", ".{}a", "${}x", "1{}2", "em{}pty", "1 /{}/ 2", "1 ={}= 1", ". |{}= 1", "1 !{}= 1",
                            "1 <{}= 1", "1 >{}= 1", "pa{}th(.)", "1 o{}r 2"):
                self.refuses(program.format(blank))
        self.refuses("1\x0b", "1\x0c", "1\x00", "\xa01")


class Grammar(RunCase):

    def test_pipe_binds_loosest_and_to_the_right(self):
        self.same("1|2|3", "1|(2|3)")
        self.same("1,2|3,4", "(1,2)|(3,4)")
        self.refuses("|", "1|", "|1", "1||2")

    def test_both(self):
        self.same("1,2,3", "1,(2,3)")
        self.same("1//2,3//4", "(1//2),(3//4)")
        self.refuses(",", "1,", ",1", "1,,2", "[1,]", "(,)")

    def test_alternatives(self):
        self.same("null//false//3", "null//(false//3)")
        self.same(".a=1//.b=2", "(.a=1)//(.b=2)")
        self.same(".a//.b=2", ".a//(.b=2)")
        self.refuses("//", "1//", "//1")

    def test_putting(self):
        self.same(".a=1 or 2", ".a=(1 or 2)")
        self.same(".a|=.==null", ".a|=(.==null)")
        self.same(". or .=1", "(. or .)=1")
        self.refuses(".a=.b=1", ".a|=.b|=1", ".a=.b|=1", ".a|=.b=1", ".=", "=1", "|=1", ".|=")
        self.takes("(.a=.b)=1", ".a=(.b=1)")

    def test_or_and_and(self):
        self.same("1 or 2 or 3", "1 or (2 or 3)")
        self.same("null or false or 3", "null or (false or 3)")
        self.same("1 and 2 and 3", "1 and (2 and 3)")
        self.same("1 or null and false", "1 or (null and false)")
        self.same("null and 1 or 2", "(null and 1) or 2")
        self.same("1==2 and 3<4", "(1==2) and (3<4)")
        self.refuses("or", "and", "1 or", "or 1", "1 and", "and 1", "1 or or 2", "1 or and 2")

    def test_comparing(self):
        self.same("1+1==2", "(1+1)==2")
        self.same("2==1+1", "2==(1+1)")
        for sign in ("==", "!=", "<", "<=", ">", ">="):
            self.takes("1" + sign + "2", "(1" + sign + "2)" + sign + "3")
            self.refuses("1" + sign, sign + "1", sign)
            for other in ("==", "!=", "<", "<=", ">", ">="):
                self.refuses("1" + sign + "2" + other + "3")

    def test_sums_and_terms_from_the_left(self):
        self.gives("10-3-2", "null", "5")
        self.gives("10-3+2", "null", "9")
        self.gives("100/5/2", "null", "10")
        self.gives("7*3%4", "null", "1")
        self.gives("2+3*4", "null", "14")
        self.gives("2*3+4", "null", "10")
        self.gives("20-12/4-1", "null", "16")
        for one in "*/%":
            for other in "*/%":
                self.same("17%s5%s3" % (one, other), "(17%s5)%s3" % (one, other))
                self.same("17+29%s5%s3-1" % (one, other), "(17+((29%s5)%s3))-1" % (one, other))
        for one in "+-":
            for other in "+-":
                self.same("17%s5%s3" % (one, other), "(17%s5)%s3" % (one, other))
        self.same("1-2+3-4", "((1-2)+3)-4")
        self.same("1*2/3%4", "((1*2)/3)%4")
        self.refuses("+", "1+", "*1", "1*", "/1", "1/", "%1", "1%", "1*+2", "-", "1-", "--")

    def test_what_stands_behind_a_prim(self):
        self.gives(".a[0].b[]?", '{"a":[{"b":[7,8]}]}', "7", "8")
        self.gives('{"a":[1,[2]]}["a"][1][]', "null", "2")
        self.gives("[1,2][1]", "null", "2")
        self.gives("[1,2] [1]", "null", "2")
        self.gives("(1,2)??", "null", "1", "2")
        self.gives("let $x={a:3} in $x.a", "null", "3")
        self.gives("if 1 then {a:2} else 3 end.a", "null", "2")
        self.gives("keys[0]", '{"b":1}', '"b"')
        self.gives("first([4,5])[1]", "null", "5")
        self.refuses("[", "]", ".[", ".]", ".[0", ".[0]]", "?", ".a?b", ".[0][", ".[]]", ".[,]", ".[:]", ".[1:2]", ".[.")

    def test_minus(self):
        self.gives("-5", "null", "-5")
        self.gives("- 5", "null", "-5")
        self.gives("--5", "null", "5")
        self.gives("-.a[0]", '{"a":[3]}', "-3")
        self.gives("-(1,2)", "null", "-1", "-2")
        self.gives("-2*-3", "null", "6")
        self.gives("-1+3", "null", "2")
        self.same("-.a.b?", "-(.a.b?)", '{"a":{"b":1}}')
        self.same("-1-1", "(-1)-1")
        self.gives("-let $x=1 in $x+1", "null", "-2")

    def test_lists_and_records(self):
        self.gives("[]", "null", "[]")
        self.gives("[ ]", "null", "[]")
        self.gives("{}", "null", "{}")
        self.gives("{ }", "null", "{}")
        self.gives("[1,2|.]", "null", "[1,2]")
        self.gives('{a:1,"b c":2,("d"):3,_9:4}', "null", '{"_9":4,"a":1,"b c":2,"d":3}')
        self.gives("{a:1//2,b:.=3}", "null", '{"a":1,"b":3}')
        self.gives("{a:(1|2)}", "null", '{"a":2}')
        self.refuses("{", "}", "{a}", "{a:}", "{a:1,}", "{,}", "{:1}", "{a:1 b:2}", "{a:1|2}", "{1:2}", "{.a:1}", "{$a:1}",
                     "{a 1}", "{a=1}", "{a:1;b:2}", "{a:1,,b:2}", "{(a):1}", "{():1}", '{("a":1}', '{("a"):}', "{[]:1}",
                     '{"a"}', '{"a".b:1}', "{a:1]", "[1}", "{a::1}", "{-1:1}")

    def test_names_in_records(self):
        for name in ("if", "then", "else", "end", "let", "in", "and", "or", "null", "true", "false", "fold"):
            self.refuses("{" + name + ":1}", "{a:1," + name + ":1}")
            self.gives('{"' + name + '":1}', "null", '{"' + name + '":1}')
        for name in ("empty error not length keys kind sort form value select path del first has a If nul rest text number "
                     "name field variable finish").split():
            self.gives("{" + name + ":1}", "null", '{"' + name + '":1}')

    def test_brackets(self):
        self.gives("(1)", "null", "1")
        self.gives("((1,2)|(.))", "null", "1", "2")
        self.gives("2*(3+4)", "null", "14")
        self.refuses("(", ")", "()", "(1", "1)", "(1))", "(1]", "[1)", "(1;2)")

    def test_if(self):
        self.gives("if 1,null|. then 2,3|. else 4 end", "null", "2", "3", "4")
        self.gives("if if 1 then null else 2 end then 3 else 4 end", "null", "4")
        self.refuses("if", "if 1", "if 1 then 2", "if 1 then 2 else 3", "if 1 then 2 end", "if 1 else 2 end", "then", "else",
                     "end", "if then 1 else 2 end", "if 1 then else 2 end", "if 1 then 2 else end", "if 1 then 2 else 3 )",
                     "if 1 then 2 else 3 end end", "if 1 then 2 else 3 else 4 end")

    def test_let(self):
        self.gives("let $x = 1|2 in $x,3|.+1", "null", "3", "4")
        self.gives("1+let $x=2 in $x+3", "null", "6")
        self.gives("let $x=let $y=1 in $y+1 in $x*10", "null", "20")
        self.gives("[let $x=1 in $x,2]", "null", "[1,2]")
        self.gives("(let $x=1 in $x),2", "null", "1", "2")
        self.gives("let $x=. = 1 in $x", "null", "1")
        self.refuses("let", "let $x", "let $x=", "let $x=1", "let $x=1 in", "let $x 1 in 2", "let x=1 in 2", "let $x==1 in 2",
                     "let $x|=1 in 2", "in", "let .x=1 in 2", "let $x=1 in 2 in 3", "let $x=1;$y=2 in 3")

    def test_a_let_ends_where_it_cannot_go_on(self):
        self.same("let $x=1 in 2==2==true", "(let $x=1 in 2==2)==true")
        self.gives("let $x=1 in 2==2==true", "null", "true")
        self.same("let $x=1 in let $y=2 in 3==3==true==false", "(let $x=1 in (let $y=2 in 3==3)==true)==false")
        self.same("let $x=1 in .=2=3", "(let $x=1 in .=2)=3")
        self.same("5,-let $x=1 in 2==2==true", "5,((-(let $x=1 in 2==2))==true)")
        self.refuses("1==let $x=1 in 2==3==4", "let $x=1 in 2==3==4==5")

    def test_a_let_in_a_record(self):
        self.gives("{a:let $x=1 in $x,b:2}", "null", '{"a":1,"b":2}')
        self.gives('{a:let $x=1 in $x,"b":2}', "null", '{"a":1,"b":2}')
        self.gives('{a:let $x=1 in $x,("b"):2}', "null", '{"a":1,"b":2}')
        self.gives('{a:let $x=1 in -let $y=2 in $x,(("b")|(.)):2}', "null", '{"a":-1,"b":2}')
        self.gives("{a:let $x=1 in $x,2}", "null", '{"a":1}', '{"a":2}')
        self.gives('{a:let $x=1 in $x,("b")|4,c:5}', "null", '{"a":4,"c":5}', '{"a":4,"c":5}')
        self.refuses("{a:let $x=1 in 2,b}", "{a:let $x=1 in 2,}", "[let $x=1 in 2,b:3]", 'let $x=1 in 2,"b":3',
                     "{a:let $x=1 in 2,(", "let $x=1 in 2,(3", "{a:(let $x=1 in 2,b:3)}")

    def test_fold(self):
        self.gives("fold(1,2|.;$x;0|.;.+$x|.)", "null", "3")
        self.refuses("fold", "fold(", "fold()", "fold(1)", "fold(1;$x)", "fold(1;$x;2)", "fold(1;$x;2;)", "fold(1;$x;;3)",
                     "fold(;$x;2;3)", "fold(1;x;2;3)", "fold(1;$x;2;3;4)", "fold(1,$x,2,3)", "fold 1;$x;2;3", "fold(1;$x;2;3",
                     "fold(1;.x;2;3)", "fold(1;1;2;3)", "fold[1;$x;2;3]")

    def test_words(self):
        for word in ("empty", "error", "not", "length", "keys", "kind", "sort", "form", "value"):
            self.takes(word, word + "|1", word + "?", word + ".a")
            self.refuses(word + "()", word + "(1)", word + " 1", word + ":")
        for word in ("select", "path", "del", "first", "has"):
            self.takes(word + "(.)", word + " ( . | . , . ) ", word + "(empty)[0]")
            self.refuses(word, word + "()", word + " 1", word + "(1;2)", word + "(", word + "(1", word + "[1]", word + ")")

    def test_two_things_side_by_side(self):
        self.refuses("1 2", '1 "a"', ". .", ". $x", "$x $y", "null null", "(1)(2)", "{}{}", "[] 1", "1 (2)", "1 {}", "empty 1",
                     "1 if 2 then 3 else 4 end", "1 let $x=2 in 3", "1:2", "1;2", "1:", ";")


class Bounds(RunCase):

    # Programs of parts that lie one deeper each time, around something.
    AROUND = (("(", ")"), ("[", "]"), ("-", ""), ("{a:", "}"), ("if ", " then 1 else 2 end"), ("if 1 then ", " else 2 end"),
              ("if 1 then 2 else ", " end"), ("let $x=", " in 2"), ("let $x=1 in ", ""), ("fold(", ";$x;1;2)"),
              ("fold(1;$x;", ";2)"), ("fold(1;$x;1;", ")"), ("select(", ")"), ("path(", ")"), ("del(", ")"), ("first(", ")"),
              ("has(", ")"), (".[", "]"), ("2[", "]"))

    def test_40_deep_and_no_deeper(self):
        for front, behind in self.AROUND:
            self.takes(front * 40 + "1" + behind * 40)
            self.refuses(front * 41 + "1" + behind * 41)
        for front, behind in (("1+(", ")"), ("1|2,3//4=5 or 6 and 7==8+9*(", ")"), ("(", ")|2")):
            self.takes(front * 40 + "1" + behind * 40)
            self.refuses(front * 41 + "1" + behind * 41)
        for front, behind in self.AROUND:
            for other, ending in self.AROUND:
                self.takes((front + other) * 20 + "1" + (ending + behind) * 20)
                self.refuses("(" + (front + other) * 20 + "1" + (ending + behind) * 20 + ")")

    def test_a_name_in_brackets_lies_two_deeper(self):
        self.takes("{(" * 20 + '"a"' + "):1}" * 20)
        self.refuses("({(" + "{(" * 19 + '"a"' + "):1}" * 19 + "):1})")
        self.takes("(" * 39 + "{a:1}" + ")" * 39, "(" * 38 + '{("a"):1}' + ")" * 38)
        self.refuses("(" * 40 + "{a:1}" + ")" * 40, "(" * 39 + '{("a"):1}' + ")" * 39)

    def test_nothing_between_brackets_lies_nowhere(self):
        for nothing in ("[]", "{}", ".[]", ".", ".a", ".?", "empty"):
            self.takes("(" * 40 + nothing + ")" * 40)
            self.refuses("(" * 41 + nothing + ")" * 41)

    def test_depth_counts_what_is_open_and_not_what_was(self):
        deep = "(" * 40 + "1" + ")" * 40
        self.takes(",".join([deep] * 20), "+".join([deep] * 20), "|".join([deep] * 20))
        self.takes("." + "[0]" * 500, "(1)|" * 500 + "1", "-1," * 500 + "1")

    def test_4096_bytes_and_no_more(self):
        for program in ("1" + " " * 4095, " " * 4095 + ".", '"' + "a" * 4094 + '"', "." + "|." * 2047 + " ", ".a" * 2048,
                        "1" + "+1" * 2047 + " ", "." + "," + ".," * 2046 + ".", "[" + "1," * 2046 + "1]", "." + "?" * 4095,
                        "." + "[]" * 2047 + " ", "1//" * 1365 + "1", "1 or " * 819 + "1", "1 and " * 682 + "1  "):
            program = program.ljust(4096)
            self.assertEqual(len(program), 4096)
            self.takes(program)
            self.refuses(program + " ", program + " " * 904)

    def test_long_ones_are_worked_out(self):
        self.gives("1" + "+1" * 2000, "null", "2001")
        self.gives("." + "|.+1" * 1000, "0", "1000")
        self.gives("." + "//1" * 1300, "null", "1")
        self.gives("null or " * 500 + "7", "null", "true")
        self.gives("7 and " * 500 + "null", "null", "false")
        self.gives(".a" * 2000, "null", "null")
        self.gives("." + "[0]" * 1000, "null", "null")
        self.gives("." + "?" * 4000, "5", "5")
        self.gives("[" + "1," * 2000 + "1]|length", "null", "2001")
        self.gives("{" + ",".join("a%d:%d" % (number, number) for number in range(300)) + "}|length", "null", "300")

    def test_very_deep_ones_are_refused_and_nothing_worse(self):
        self.refuses("(" * 4096, "[" * 2048 + "]" * 2048, "-" * 4095 + "1", "{a:" * 1365, "if " * 1365, "let $x=" * 500,
                     "path(" * 800, "(" * 5000, ".[" * 2000)


if __name__ == "__main__":
    unittest.main()
