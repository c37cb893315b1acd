"""run: places, and what is changed there: path, del, = and |=, with errors 1, 2, 5, 6 and 7."""

import itertools
import unittest

from running import RunCase, answer

# Programs that make a value, with nothing there that makes them stop by an error of their own.
MAKERS = ("1", "null", "true", "false", '"a"', "[]", "{}", "[.]", "{a:.}", '{("a"):1}', "1+2", "[1]-[1]", "2*3", "4/2", "5%2",
          "1==1", "1!=1", "1<2", "1<=2", "1>2", "1>=2", "1 or 2", "null and 1", "-1", "not", "kind", "form", "length", "has(0)",
          "let $x=1 in $x", "null+.", "[1]|.[0]|1")

# Programs that can't be asked for places at all.
NEVER = ("path(.)", "del(.)", ".=1", ".|=1", "fold(empty;$x;.;.)", "path(error)", "del(error)", "error=1", ".=error", "error|=1",
         ".|=error", "fold(error;$x;.;.)", "path(empty)", ".=empty", "fold(empty;$x;empty;.)")


class Asked(RunCase):

    def test_rows(self):
        self.gives("path(.)", "5", "[]")
        self.gives("path(.a)", '{"a":1}', '["a"]')
        self.gives("path(.a.b)", "null", '["a","b"]')
        self.gives('path(.["a b"][0])', "null", '["a b",0]')
        self.gives("path(.[0,2])", "[5]", "[0]", "[2]")
        self.gives("path(.[])", "[5,6]", "[0]", "[1]")
        self.gives("path(.[])", '{"b":1,"a":2}', '["a"]', '["b"]')
        self.gives("path(.[][])", '[[5],{"a":6},[]]', "[0,0]", '[1,"a"]')
        self.gives("path(.a,.b,.)", "null", '["a"]', '["b"]', "[]")
        self.gives("path(empty)", "5")

    def test_what_is_told_with_places(self):
        self.gives("path(.a|.b)", "null", '["a","b"]')
        self.gives("path(.a|(.,.b)|.c)", "null", '["a","c"]', '["a","b","c"]')
        self.gives("path(.[]|select(.>1))", "[1,2,3]", "[1]", "[2]")
        self.gives("path(select(1,2))", "5", "[]", "[]")
        self.gives("path(first(.[1,0]))", "[5,6]", "[1]")
        self.gives("path(first(.a,error))", "null", '["a"]')
        self.gives("path(first(.[]))", "[]")
        self.gives("path(.a?)", "5")
        self.gives("path((.[0],.a,.[1])?)", "[5,6]", "[0]")
        self.gives("path(.a//.b)", '{"a":1}', '["a"]')
        self.gives("path(.a//.b)", '{"a":false}', '["b"]')
        self.gives("path((.a,.b,.c)//.d)", '{"b":1}', '["b"]')
        self.gives("path((.b,error)//.d)", '{"b":1}', '["b"]')
        self.gives("path(1//.d)", "null", '["d"]')
        self.gives("path(if .a then .b else .c end)", '{"a":1}', '["b"]')
        self.gives("path(if .a,null then .b else .c end)", '{"a":1}', '["b"]', '["c"]')
        self.gives("path(let $x=(0,1) in .[$x])", "null", "[0]", "[1]")
        self.gives("path(.a.b?.c)", "null", '["a","b","c"]')

    def test_where_no_places_are_asked_for(self):
        self.gives("path(.[1+1])", "null", "[2]")
        self.gives("path(.a[.b|length])", '{"b":[1,2,3]}', '["a",3]')
        self.gives("path(.a|.[keys|length])", '{"a":[7,8]}', '["a",2]')
        self.gives("path(if 1==1 then .a else .b end)", "null", '["a"]')
        self.gives("path(let $x={a:[path(.b)]} in .c)", "null", '["c"]')
        self.gives('path(.[path(.x)|.[0]])', "null", '["x"]')
        self.gives("path(select(.==null and (path(.a)|.[0])==\"a\"))", "null", "[]")
        self.gives("path(select(fold(1,2;$x;0;.+$x)==3)|.a)", "null", '["a"]')
        self.gives("path(if (.a=1)|.a==1 then .b else .c end)", "null", '["b"]')

    def test_errors_come_as_ever(self):
        self.stops(1, "path(.a)", "5")
        self.stops(1, "path(.[0])", "{}")
        self.stops(1, "path(.[-1])", "[]")
        self.stops(1, "path(.[])", "null")
        self.stops(1, "path(.[].a)", '[{"a":1},5]', '[0,"a"]')
        self.stops(4, "path(.a,error,.b)", "null", '["a"]')
        self.stops(4, "path(error)")
        self.stops(1, "path($x)")
        self.stops(4, "path(.[0,error])", "null", "[0]")
        self.stops(4, "path(select(1,error))", "null", "[]")

    def test_what_makes_a_value_has_no_place(self):
        for maker in MAKERS:
            self.stops(7, "path(" + maker + ")")
            self.stops(7, "path(.a,(" + maker + "),.b)", "null", '["a"]')
            self.stops(7, "del(" + maker + ")")
            self.stops(7, "(" + maker + ")=1")
            self.stops(7, "(" + maker + ")|=1")
            self.stops(7, "path((" + maker + ").a)")
            self.stops(7, "path((" + maker + ")[0])")
            self.stops(7, "path(first(" + maker + "))")
            self.gives("path((" + maker + ")?)", "null")
            self.gives("path((" + maker + ")//.z)", "null", '["z"]')

    def test_words_of_a_list_have_none_either(self):
        for maker in ("keys", "sort", "length", "form", "kind", "not", "has(0)", "has(7)", ".+.", ".-."):
            self.stops(7, "path(" + maker + ")", "[2,1]")
        self.stops(7, "path(value)", '"1"')

    def test_places_that_cannot_be_asked_for(self):
        for program in NEVER:
            self.stops(7, "path(" + program + ")")
            self.stops(7, "path(.a|(" + program + "))")
            self.stops(7, "del(" + program + ")")
            self.stops(7, "(" + program + ")=1")
            self.stops(7, "(" + program + ")|=1")
            self.gives("path((" + program + ")?)", "null")

    def test_own_errors_come_first(self):
        self.stops(1, 'path(1+"a")')
        self.stops(3, "path(1/0)")
        self.stops(2, "path(9007199254740991+1)")
        self.stops(2, "path(9007199254740991*2)")
        self.stops(1, "path(-null)")
        self.stops(1, "path({(1):2})")
        self.stops(4, "path([1,error])")
        self.stops(4, "path({a:error})")
        self.stops(4, "path({a:1,b:error})")
        self.stops(4, "path(error+1)")
        self.stops(4, "path(1+error)")
        self.stops(4, "path(null or error)")
        self.stops(1, "path(has(-1))")
        self.stops(1, "path(keys)", "5")
        self.stops(1, "path(sort)", "5")
        self.stops(1, "path(value)", '"x"')
        self.stops(1, "path(length)", "true")
        self.gives("path(empty+1)", "null")
        self.gives("path({a:empty})", "null")
        self.gives("path(has(empty))", "null")

    def test_but_not_error_2_of_what_is_no_number(self):
        text = '"' + "a" * 3000 + '"'
        for program in (".+.", "[.,.]", "{a:.,b:.}"):
            self.stops(2, program, text)
            self.stops(7, "path(" + program + ")", text)
        for value in ('"' + "a" * 4094 + '"', "[" + "12," * 1364 + "34]"):
            self.stops(2, "form", value)
            self.stops(7, "path(form)", value)
        self.stops(2, "path([[.,.]])", text)

    def test_rows_may_be_too_large(self):
        text = '"' + "a" * 2046 + '"'
        self.gives("let $x=. in null|path(.[$x].a[$x])|length", '"' + "a" * 2045 + '"', "3")
        self.gives("let $x=. in null|path(.[$x][$x])|length", text, "2")
        self.stops(2, "let $x=. in null|path(.[$x].a[$x])", text)
        self.gives("path(" + ".a" * 2000 + ")|length", "null", "2000")


class Deleting(RunCase):

    def test_deleting(self):
        self.gives("del(.a)", '{"a":1,"b":2}', '{"b":2}')
        self.gives("del(.a)", '{"b":2}', '{"b":2}')
        self.gives("del(.[1])", "[1,2,3]", "[1,3]")
        self.gives("del(.[3])", "[1,2,3]", "[1,2,3]")
        self.gives("del(.a.b[0])", '{"a":{"b":[1,2],"c":3}}', '{"a":{"b":[2],"c":3}}')
        self.gives("del(.a.b)", '{"a":null}', '{"a":null}')
        self.gives("del(.a.b.c)", '{"b":1}', '{"b":1}')
        self.gives("del(.a)", "null", "null")
        self.gives("del(.)", "[1,2]", "null")
        self.gives("del(.)", "null", "null")
        self.gives("del(empty)", "[1,2]", "[1,2]")
        self.gives("del(.[])", "[1,2]", "[]")
        self.gives("del(.[])", '{"a":1,"b":2}', "{}")

    def test_many_places(self):
        for order in itertools.permutations("024"):
            self.gives("del(.[" + ",".join(order) + "])", "[1,2,3,4,5]", "[2,4]")
        self.gives("del(.[0,0,0])", "[1,2,3]", "[2,3]")
        self.gives("del(.[0],.[0][1],.[1][0])", "[[1,2],[3,4]]", "[[4]]")
        self.gives("del(.[0][1],.[0],.[1][0])", "[[1,2],[3,4]]", "[[4]]")
        self.gives("del(.[][0])", "[[1,2],[3],[]]", "[[2],[],[]]")
        self.gives("del(.a,.)", '{"a":1}', "null")
        self.gives("del(.,.a)", '{"a":1}', "null")
        self.gives('del(.a,.["b"],.a.c)', '{"a":{"c":1},"b":2,"d":3}', '{"d":3}')
        self.gives('del(.a,.[0])', "null", "null")
        self.gives("del(.[]|select(.>1))", "[1,2,3,0,5]", "[1,0]")
        self.gives("del(.[1,10,2])", "[" + ",".join(map(str, range(12))) + "]", "[0,3,4,5,6,7,8,9,11]")

    def test_stops(self):
        self.stops(4, "del(.a,error)", '{"a":1}')
        self.stops(1, "del(.a)", "[1]")
        self.stops(1, "del(.a[0])", '{"a":{}}')
        self.stops(4, "5,del(error)", "null", "5")


class Putting(RunCase):

    def test_putting(self):
        self.gives(".=1", "5", "1")
        self.gives(".a=1", "null", '{"a":1}')
        self.gives(".a=1", '{"a":5,"b":6}', '{"a":1,"b":6}')
        self.gives(".a=1", '{"b":6}', '{"a":1,"b":6}')
        self.gives('.["b"]=1', '{"a":1,"c":2}', '{"a":1,"b":1,"c":2}')
        self.gives(".[0]=1", "null", "[1]")
        self.gives(".[0]=1", "[]", "[1]")
        self.gives(".[1]=9", "[5,6,7]", "[5,9,7]")
        self.gives(".[3]=9", "[5,6,7]", "[5,6,7,9]")
        self.gives(".a.b[0].c=1", "null", '{"a":{"b":[{"c":1}]}}')
        self.gives(".a.b=1", '{"a":{"c":2},"d":3}', '{"a":{"b":1,"c":2},"d":3}')
        self.gives(".a[2].b=1", '{"a":[5,6]}', '{"a":[5,6,{"b":1}]}')
        self.gives(".a.b=1", '{"a":null}', '{"a":{"b":1}}')
        self.gives(".a[0]=1", '{"a":null}', '{"a":[1]}')
        self.gives("empty=1", "5", "5")
        self.gives(".a=null", "null", '{"a":null}')

    def test_many_places(self):
        self.gives(".[]=0", "[1,2]", "[0,0]")
        self.gives(".[]=0", '{"a":1,"b":[2]}', '{"a":0,"b":0}')
        self.gives("(.a,.b)=1", "null", '{"a":1,"b":1}')
        self.gives("(.[0],.[1],.[2])=7", "null", "[7,7,7]")
        self.gives("(.a,.)=1", "null", "1")
        self.gives("(.,.a)=null", '{"b":1}', '{"a":null}')
        self.gives("(.a,.a.b)={c:1}", "null", '{"a":{"b":{"c":1},"c":1}}')
        self.gives("(.[]|select(.>1))=0", "[1,2,3]", "[1,0,0]")

    def test_what_is_put_is_worked_out_of_what_there_is(self):
        self.gives(".a=.b", '{"a":1,"b":2}', '{"a":2,"b":2}')
        self.gives(".a=.", '{"a":1}', '{"a":{"a":1}}')
        self.gives("(.a,.b)=.a", '{"a":1,"b":2}', '{"a":1,"b":1}')
        self.gives(".a=(1,2)", "null", '{"a":1}', '{"a":2}')
        self.gives(".[0,1]=(3,4)", "[1,2]", "[3,3]", "[4,4]")
        self.gives(".a=empty", "null")
        self.gives("error=empty", "null")

    def test_where_it_cannot_be(self):
        for value in ("true", "false", "0", "-5", '""', '"a"'):
            for program in (".a=1", ".[0]=1"):
                self.stops(1, program, value)
        self.stops(6, ".[1]=1", "[]")
        self.stops(6, ".[3]=1", "[1,2]")
        self.stops(6, ".[1]=1", "null")
        self.stops(6, ".a[1].b=1", "null")
        self.stops(6, "(.a,.a.b)=1", "null")
        self.stops(6, "(.a,.a[0])={}", "null")
        self.stops(6, "(.a,.a.b)=[]", "null")
        self.stops(6, '(.a,.a.b)="x"', "null")
        self.stops(6, "(.[0],.[2])=1", "[]")
        self.stops(6, "(.[2],.[0],.[1])=1", "[]")
        self.gives("(.[0],.[1],.[2])=1", "[]", "[1,1,1]")
        self.gives("(.a,.a.b)=null", '{"a":{"c":1}}', '{"a":{"b":null}}')
        self.stops(6, ".[1]=(1,2)", "[]")
        self.stops(6, "(.,.[1])=([1],[],[2])", "null", "[1,[1]]")

    def test_stops(self):
        self.stops(4, "(.a,error)=1")
        self.stops(4, ".a=(1,error,2)", "null", '{"a":1}')
        self.stops(3, "error=1/0")
        self.stops(4, "error=1")
        self.stops(1, ".a.b=1", '{"a":5}')

    def test_error_2(self):
        self.stops(2, ".a.b=.", '{"a":{"c":"' + "x" * 2050 + '"}}')
        self.stops(2, ".a" * 41 + "=1")
        self.gives(".a" * 40 + "=1|" + ".a" * 40, "null", "1")
        self.stops(2, ".a" * 40 + "=[]")
        self.stops(2, ".[0]" + "[0]" * 1000 + "=1")


class Updating(RunCase):

    def test_updating(self):
        self.gives(".|=.+1", "5", "6")
        self.gives(".a|=.+1", '{"a":5}', '{"a":6}')
        self.gives(".a|=[.]", "null", '{"a":[null]}')
        self.gives(".[]|=.*2", "[1,2]", "[2,4]")
        self.gives(".[]|=length", '{"a":[1],"b":"xyz"}', '{"a":1,"b":3}')
        self.gives(".[2]|=kind", "[5,6]", '[5,6,"null"]')
        self.gives(".a.b[0]|=not", "null", '{"a":{"b":[true]}}')
        self.gives("empty|=error", "5", "5")
        self.gives(".a.b|=.", '{"a":{"c":1}}', '{"a":{"b":null,"c":1}}')

    def test_one_after_another(self):
        self.gives("(.a,.a,.a)|=.+1", '{"a":0}', '{"a":3}')
        self.gives("(.a,.)|=[.]", '{"a":0}', '[{"a":[0]}]')
        self.gives("(.,.a)|=(.//{b:1})", "null", '{"a":{"b":1},"b":1}')
        self.gives("(.[0],.[1],.[2])|=.", "[]", "[null,null,null]")
        self.gives("let $x=10 in .[]|=.+$x", "[1,2]", "[11,12]")

    def test_only_the_first_counts(self):
        self.gives(".a|=(1,2)", "null", '{"a":1}')
        self.gives(".a|=(1,error)", "null", '{"a":1}')
        self.gives(".a|=null", '{"a":5}', '{"a":null}')
        self.stops(5, ".a|=empty", '{"a":5}')
        self.stops(5, ".[]|=select(.>1)", "[2,1]")
        self.stops(4, ".a|=error")
        self.stops(4, ".a|=(empty,error)")
        self.stops(3, ".[]|=6/.", "[1,0]")

    def test_where_it_cannot_be(self):
        self.stops(6, ".[1]|=1", "[]")
        self.stops(6, ".[1]|=1", "null")
        self.stops(6, ".a[1]|=1", "null")
        self.stops(4, ".[1]|=error", "[]")
        self.stops(5, ".[1]|=empty", "[]")
        self.stops(1, "(.a,.a.b)|=1")
        self.stops(1, "(.a,.a.b)|=[]")
        self.stops(1, "(.a,.a[0])|={}")
        self.stops(1, "(.a,.a.b)|=(true,error)")
        self.stops(1, ".a|=1", "5")
        self.stops(4, "(.a,error)|=1")

    def test_error_2_comes_as_soon_as_it_is_too_large(self):
        value = '{"a":"' + "x" * 2044 + '"}'
        self.stops(2, "let $x=.a in (.b,.c,.d)|=if .==null then $x else error end", value)
        self.stops(2, "let $x=.a in (.b,.c,.c.d)|=$x", value)
        self.stops(2, "let $x=.a in (.b,.c,.)|=$x", value)
        self.gives("let $x=.a in (.b,.)|=$x|length", value, "2044")
        self.stops(2, ".a" * 41 + "|=1")
        self.gives(".a" * 40 + "|=1|" + ".a" * 40, "null", "1")


class WhatHolds(RunCase):

    VALUES = ("null", "5", "[1,[2,3],null]", '{"a":{"b":1,"c":[2]},"d":null}')
    PLACES = (".", ".a", ".a.b", ".[0]", ".[1][1]", ".[]", ".[]?", "(.a,.d)?", ".[1]?", "(.[]|.[])?", "first(.[]?)", ".a.c[0]")

    def is_done(self, program, value):
        return answer(program, value)[0] == 0

    def test_places_lead_to_what_is_given(self):
        for value, place in itertools.product(self.VALUES, self.PLACES):
            if self.is_done(place, value):
                self.gives("let $v=. in [path(%s)|let $p=. in fold($p[];$k;$v;.[$k])]==[%s]" % (place, place), value, "true")
                self.gives("[path(%s)|kind]==[%s|\"list\"]" % (place, place), value, "true")
            else:
                self.assertEqual(answer("path(" + place + ")", value)[0], answer(place, value)[0])

    def test_what_is_put_is_there(self):
        for value, place in itertools.product(self.VALUES, self.PLACES):
            if self.is_done("(%s)=7" % place, value):
                self.gives("let $n=[%s]|length in (((%s)=7)|[%s|select(.==7)]|length)==$n" % (place, place, place), value,
                           "true")

    def test_all_else_is_kept(self):
        value = '{"a":{"b":1,"c":[2,3]},"d":null,"e":"x"}'
        self.gives(".a.b=7", value, '{"a":{"b":7,"c":[2,3]},"d":null,"e":"x"}')
        self.gives(".a.c[1]=7", value, '{"a":{"b":1,"c":[2,7]},"d":null,"e":"x"}')
        self.gives(".d.f|=7", value, '{"a":{"b":1,"c":[2,3]},"d":{"f":7},"e":"x"}')
        self.gives("del(.a.c[0])", value, '{"a":{"b":1,"c":[3]},"d":null,"e":"x"}')
        self.gives(".a.c[0]=7,.", value, '{"a":{"b":1,"c":[7,3]},"d":null,"e":"x"}', value)


if __name__ == "__main__":
    unittest.main()
