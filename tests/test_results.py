"""Promise 2, Results."""

import itertools
import unittest

from tests.helper import ask, aside, error, full, out, run, told


class Texts(unittest.TestCase):
    def shown(self, text, call):
        return out("define(`f',`" + text + "')" + call)

    def test_name(self):
        self.assertEqual(self.shown("<`$0'>", "f f(a)"), "<f> <f>")

    def test_arguments(self):
        call = "f(a,b,c,d,e,f1,g,h,i,j)"
        self.assertEqual(self.shown("$1$2$3$4$5$6$7$8$9", call), "abcdef1ghi")
        self.assertEqual(self.shown("$9-$1-$1", call), "i-a-a")
        self.assertEqual(self.shown("$10", call), "a0")
        self.assertEqual(self.shown("<$1$2$9>", "f f() f(a)"), "<> <> <a>")

    def test_how_many(self):
        self.assertEqual(self.shown("$#", "f f() f(a) f(a,) f(a,b,c,d,e,f1,g,h,i,j,k,l)"), "0 1 1 2 12")

    def test_all_with_commas(self):
        self.assertEqual(self.shown("<$*>", "f f() f(a) f(a,,`b c')"), "<> <> <a> <a,,b c>")

    def test_all_in_quotes(self):
        self.assertEqual(self.shown("``<$@>''", "f(a,b)"), "`<`a',`b'>'")
        self.assertEqual(self.shown("`<$@>'", "f f() f(a,,`b')"), "<> <`'> <`a',`',`b'>")
        self.assertEqual(self.shown("[$@]", "f f() f(`len(a)',,`b')"), "[] [] [len(a),,b]")
        self.assertEqual(out("define(`f',`len($@)')f(`a,b')f()f"), "300")
        self.assertEqual(out("define(`f',`len($*)')f(`a,b')"), "1")

    def test_quotes_of_now(self):
        text = "define(`f',`$@')changequote(<<,>>)f(<<`a'>>,b)"
        self.assertEqual(full(text), (0, "`a',b", 20))
        self.assertEqual(out("define(`f',`changequote([,])$@')f(a,b)"), "`a',`b'")
        self.assertEqual(out("define(`f',`$@')changequote(,])f(a,b)"), "a],b]")

    def test_other_dollars_stay(self):
        self.assertEqual(self.shown("$ $$ $a $- $$1 $", "f(x)"), "$ $$ $a $- $x $")
        self.assertEqual(self.shown("$", "f"), "$")
        self.assertEqual(self.shown("${1} $(", "f(x)"), "${1} $(")

    def test_arguments_are_filled_in_once(self):
        self.assertEqual(self.shown("$1$2", "f($2,b)"), "$2b")

    def test_empty(self):
        self.assertEqual(self.shown("", "<f><f(a)>"), "<><>")


class Definitions(unittest.TestCase):
    def test_define(self):
        self.assertEqual(out("define(`a',`b')a"), "b")
        self.assertEqual(out("define(`a',`b')define(`a',`c')a"), "c")
        self.assertEqual(out("define(`a')[a]"), "[]")
        self.assertEqual(out("define(`a',`b',`c')a"), "b")
        self.assertEqual(full("define(`a',`b')"), (0, "", 5))

    def test_define_instead_of_the_latest(self):
        self.assertEqual(out("define(`a',`1')pushdef(`a',`2')define(`a',`3')a`'popdef(`a')a`'popdef(`a')a"), "31a")

    def test_define_instead_of_what_is_built_in(self):
        self.assertEqual(out("define(`len',`<$1>')len(abc)popdef(`len')len(abc)"), "<abc>len(abc)")
        self.assertEqual(out("define(`dnl',`x')dnl a"), "x a")

    def test_empty_name(self):
        self.assertEqual(out("define(`',`b')define()pushdef(`',`b')ifdef(`',y,n)"), "n")

    def test_names_that_are_no_tokens(self):
        self.assertEqual(out("define(`a b',`c')a b defn(`a b')ifdef(`a b',y,n)"), "a b cy")
        self.assertEqual(out("define(`1',`c')1`'defn(`1')"), "1c")
        self.assertEqual(out("define(`\xff',`c')\xff`'ifdef(`\xff',y)"), "\xffy")

    def test_pushdef_and_popdef(self):
        self.assertEqual(out("pushdef(`a',`1')a`'pushdef(`a',`2')a`'popdef(`a')a`'popdef(`a')a"), "121a")
        self.assertEqual(out("pushdef(`a')[a]"), "[]")
        self.assertEqual(out("pushdef(`len',`x')len(a) popdef(`len')len(a) popdef(`len')len(a)"), "x 1 len(a)")

    def test_popdef_of_several(self):
        text = "pushdef(`a',`1')pushdef(`a',`2')pushdef(`a',`3')pushdef(`b',`4')"
        self.assertEqual(out(text + "popdef(`a',`b',`a')a b"), "1 b")
        self.assertEqual(out(text + "popdef(`c',`',`a')a b"), "2 4")
        self.assertEqual(out(text + "popdef()a b"), "3 4")

    def test_undefine(self):
        text = "pushdef(`a',`1')pushdef(`a',`2')define(`b',`4')"
        self.assertEqual(out(text + "undefine(`a')a b"), "a 4")
        self.assertEqual(out(text + "undefine(`c',`b',`a',`a')a b"), "a b")
        self.assertEqual(out("undefine(`len',`dnl',`divnum')len(a) dnl divnum"), "len(a) dnl divnum")
        self.assertEqual(out("pushdef(`len',`x')undefine(`len')len(a)"), "len(a)")

    def test_defn(self):
        self.assertEqual(out("define(`a',`b $1')define(`b',`c')defn(`a')"), "b $1")
        self.assertEqual(out("define(`a',`b')define(`c',defn(`a'))undefine(`a')c"), "b")
        self.assertEqual(out("define(`a',`x,y')len(defn(`a'))"), "3")
        self.assertEqual(out("pushdef(`a',`1')pushdef(`a',`2')defn(`a')"), "2")
        self.assertEqual(out("define(`a',`1')define(`b',`2')defn(`a',`b')"), "1")

    def test_defn_of_no_text(self):
        self.assertEqual(full("defn(`a')"), (0, "", 3))
        self.assertEqual(full("defn()"), (0, "", 2))
        self.assertEqual(full("defn(`len')"), (0, "", 3))
        self.assertEqual(full("define(`a')defn(`a')"), (0, "", 7))

    def test_defn_in_the_quotes_of_now(self):
        self.assertEqual(full("define(`a',`b')changequote(<<,>>)defn(<<a>>)"), (0, "b", 16))
        self.assertEqual(out("define(`1',`x')changequote(,])defn(1)"), "x]")


class Choices(unittest.TestCase):
    def test_ifdef(self):
        self.assertEqual(out("define(`a')ifdef(`a',yes,no) ifdef(`b',yes,no)"), "yes no")
        self.assertEqual(out("ifdef(`len',yes,no) ifdef(`eval',yes) ifdef(`b',yes)"), "yes yes ")
        self.assertEqual(full("ifdef(`len')ifdef(`b')ifdef()"), (0, "", 8))
        self.assertEqual(out("ifdef(`len',1,2,3)ifdef(`b',1,2,3)"), "12")
        self.assertEqual(out("define(`a',`x')ifdef(`a',``a'',`no')"), "a")

    def test_ifelse_of_fewer_than_three(self):
        for text in ("ifelse()", "ifelse(a)", "ifelse(a,a)", "ifelse(a,b)", "ifelse(,)"):
            self.assertEqual(out(text), "")

    def test_ifelse_of_three_and_four(self):
        self.assertEqual(out("ifelse(a,a,yes) ifelse(a,b,yes)"), "yes ")
        self.assertEqual(out("ifelse(a,a,yes,no) ifelse(a,b,yes,no)"), "yes no")
        self.assertEqual(out("ifelse(,,yes) ifelse(`a ',a,yes,no)"), "yes no")

    def test_ifelse_of_more(self):
        self.assertEqual(out("ifelse(a,b,1,c,c)"), "")
        self.assertEqual(out("ifelse(a,a,1,c,c)"), "1")
        self.assertEqual(out("ifelse(a,b,1,c,c,2)ifelse(a,b,1,c,d,2)"), "2")
        self.assertEqual(out("ifelse(a,b,1,c,c,2,3)ifelse(a,b,1,c,d,2,3)"), "23")
        self.assertEqual(out("ifelse(a,b,1,c,d,2,e,e)"), "")
        self.assertEqual(out("ifelse(a,b,1,c,d,2,e,e,3)"), "3")
        self.assertEqual(out("ifelse(" + "a,b,1," * 300 + "c,c,2,3)"), "2")

    def test_results_are_read_again(self):
        self.assertEqual(out("define(`x',`y')ifelse(a,a,`x') ifdef(`len',`x')"), "y y")


class Shift(unittest.TestCase):
    def test_all_but_the_first_in_quotes(self):
        self.assertEqual(out("define(`b',`x')shift(a,`b',c)"), "b,c")
        self.assertEqual(out("define(`f',`$#')f(shift(a,`b,c',d))"), "2")
        self.assertEqual(out("define(`f',`$#')f(shift(a,,))"), "2")

    def test_of_one(self):
        self.assertEqual(full("shift(a)"), (0, "", 3))
        self.assertEqual(full("shift()"), (0, "", 2))
        self.assertEqual(full("shift(a,)"), (0, "", 5))

    def test_in_the_quotes_of_now(self):
        self.assertEqual(out("changequote(<<,>>)shift(a,<<len(x)>>)"), "len(x)")
        self.assertEqual(out("changequote(,!)shift(a,b,c)"), "b!,c!")


class Numbers(unittest.TestCase):
    def test_incr_and_decr(self):
        self.assertEqual(out("incr(0) incr(-1) incr(41) decr(0) decr(1) decr(-41)"), "1 0 42 -1 0 -42")
        self.assertEqual(out("incr() decr() incr(1,x) decr(1,x)"), "1 -1 2 0")

    def test_go_round(self):
        self.assertEqual(out("incr(9223372036854775807)"), "-9223372036854775808")
        self.assertEqual(out("decr(-9223372036854775808)"), "9223372036854775807")
        self.assertEqual(out("incr(9223372036854775808)"), "-9223372036854775807")
        self.assertEqual(out("incr(18446744073709551616)"), "1")
        self.assertEqual(out("incr(-18446744073709551617)"), "0")
        self.assertEqual(out("incr(1" + "0" * 20000 + "5)"), "6")

    def test_form(self):
        self.assertEqual(out("incr(` \t\n\x0b\x0c\r7') incr(+7) incr(` -7') incr(007) incr(-0)"), "8 8 -6 8 1")
        self.assertEqual(out("incr(`')incr(` ')"), "11")

    def test_no_numbers(self):
        for text in ("x", "1x", "1 ", "- 1", "-", "+", "--1", "+-1", "1+1", "1.5", "0x1", "` -'", "1`'(", "\xb2", "/", ":"):
            self.assertEqual(error("incr(" + text.replace("(", "`('") + ")"), 2, text)
            self.assertEqual(error("decr(" + text.replace("(", "`('") + ")"), 2, text)

    def test_error_drops_the_result_alone(self):
        self.assertEqual(full("a incr(x)b"), (2, "a ", 5))


class Strings(unittest.TestCase):
    def test_len(self):
        self.assertEqual(out("len() len(a) len(`a b,c') len(ab,cde) len(\xff\0)"), "0 1 5 2 2")

    def test_index(self):
        self.assertEqual(out("index(abcabc,a) index(abcabc,bc) index(abcabc,ca) index(abcabc,x)"), "0 1 2 -1")
        self.assertEqual(out("index(abc,`') index(`',`') index(abc) index() index(`',a) index(ab,abc)"), "0 0 0 0 -1 -1")
        self.assertEqual(out("index(aabaaab,aaab) index(ababac,abac) index(aaa,aaa) index(abc,c,x)"), "3 2 0 2")
        self.assertEqual(out("index(abacabab,abab) index(aabaabaaa,aabaaa) index(abacbacx,abacx)"), "4 3 -1")

    def test_index_of_all_short_texts(self):
        parts = ["".join(signs) for size in range(1, 5) for signs in itertools.product("ab", repeat=size)]
        for part in parts:
            rows = ["".join(signs) for signs in itertools.product("abc", repeat=5)]
            text = " ".join("index({0},{1})".format(row, part) for row in rows)
            self.assertEqual(out(text), " ".join(str(row.find(part)) for row in rows))

    def test_substr(self):
        self.assertEqual(out("substr(abcdef,2) substr(abcdef,2,3) substr(abcdef,0,1)"), "cdef cde a")
        self.assertEqual(out("[substr(abc,3)][substr(abc,4)][substr(abc,1,9)][substr(abc,1,0)]"), "[][][bc][]")
        self.assertEqual(out("[substr(abc,-1)][substr(abc,-1,2)][substr(abc,1,-1)][substr(abc,-9,-9)]"), "[][][][]")

    def test_substr_does_not_count_from_behind(self):
        self.assertEqual(out("[substr(abc,-1,5)][substr(abcdef,-2,1)][substr(abcdef,-2)]"), "[][][]")
        self.assertEqual(out("[substr(abc,0,-1)][substr(abcdef,1,-2)]"), "[][]")

    def test_substr_of_fewer_and_more(self):
        self.assertEqual(out("[substr()][substr(abc)][substr(abc,)][substr(abc,1,)][substr(abc,1,1,x)]"), "[][abc][abc][][b]")

    def test_substr_of_great_numbers(self):
        self.assertEqual(out("[substr(abc,9223372036854775807,9223372036854775807)]"), "[]")
        self.assertEqual(out("[substr(abc,1,9223372036854775807)][substr(abc,9223372036854775808)]"), "[bc][]")
        self.assertEqual(out("[substr(abc,18446744073709551617)]"), "[bc]")

    def test_substr_of_no_numbers(self):
        self.assertEqual(error("substr(abc,x)"), 2)
        self.assertEqual(error("substr(abc,1,x)"), 2)
        self.assertEqual(error("substr(abc,-1,x)"), 2)
        self.assertEqual(error("substr(,1 )"), 2)

    def test_results_are_read_again(self):
        self.assertEqual(out("define(`b',`x')substr(abc,1,1) translit(a,a,`b')"), "x x")


class Translit(unittest.TestCase):
    def test_bytes(self):
        self.assertEqual(out("translit(abcabd,abc,xyz)"), "xyzxyd")
        self.assertEqual(out("translit(abcd,abc,x)"), "xd")
        self.assertEqual(out("translit(abcd,abc)"), "d")
        self.assertEqual(out("translit(abcd) translit() translit(abc,`',xyz)"), "abcd  abc")
        self.assertEqual(out("translit(abc,ab,xyz,q)"), "xyc")

    def test_first_place(self):
        self.assertEqual(out("translit(aba,aba,123)"), "121")
        self.assertEqual(out("translit(ab,aab,1)"), "1")

    def test_byte_0(self):
        self.assertEqual(out("translit(`a\0b',a,x) translit(`.a.',a,\0)"), "x\0b .\0.")
        self.assertEqual(out("translit(`a\0b',\0,x) translit(`a\0b',\0)"), "axb ab")

    def test_each_byte_once(self):
        self.assertEqual(out("translit(abc,abc,bca)"), "bca")

    def test_ranges_up_and_down(self):
        self.assertEqual(out("translit(hello,a-z,A-Z)"), "HELLO")
        self.assertEqual(out("translit(abcde,a-e,e-a)"), "edcba")
        self.assertEqual(out("translit(abcde,e-a,1-5)"), "54321")
        self.assertEqual(out("translit(abcdx,xa-cy,0-9)"), "123d0")
        self.assertEqual(out("translit(`@ABCD',C-A,1-3) translit(`@ABCD',A-C,1-3)"), "@321D @123D")
        self.assertEqual(out("translit(abc,a-a,b-b)"), "bbc")
        self.assertEqual(out("translit(a5,0-9,a-d)"), "a")

    def test_minus_at_an_end(self):
        self.assertEqual(out("translit(a-b,-a,xy)"), "yxb")
        self.assertEqual(out("translit(a-b,a-,xy)"), "xyb")
        self.assertEqual(out("translit(a-b,-,x)"), "axb")
        self.assertEqual(out("translit(a-b,--,xy)"), "axb")
        self.assertEqual(out("translit(abc,abc,-x-)"), "-x-")
        self.assertEqual(out("translit(-ac,a-c-,1-4)"), "413")
        self.assertEqual(out("translit(`+,-./',`+--',`1-3')"), "123./")

    def test_range_that_goes_on(self):
        self.assertEqual(out("translit(abcde-,a-c-e,1-5)"), "12345-")
        self.assertEqual(out("translit(abcd,a-c-a,1-5)"), "123d")

    def test_range_over_all_bytes(self):
        every = "".join(chr(byte) for byte in range(256) if chr(byte) not in "`'")
        self.assertEqual(out("translit(`" + every + "',\0-\xff)"), "")
        self.assertEqual(out("len(translit(`" + every + "',\0-\x7f))"), "128")
        self.assertEqual(out("translit(`\0\1\xfe\xff',\0-\xff,\xff-\0)"), "\xff\xfe\1\0")


class Lines(unittest.TestCase):
    def test_dnl(self):
        self.assertEqual(out("a`'dnl b `c\nd"), "ad")
        self.assertEqual(out("adnl b\nd"), "adnl b\nd")
        self.assertEqual(full("dnl"), (0, "", 1))
        self.assertEqual(full("dnl a b c"), (0, "", 1))
        self.assertEqual(out("dnl\n\nx"), "\nx")

    def test_dnl_with_a_bracket(self):
        self.assertEqual(full("dnl(a,len(\n\n))b c\nd"), (0, "d", 10))
        self.assertEqual(error("dnl(a\n"), 1)

    def test_dnl_within_a_call(self):
        self.assertEqual(out("len(a dnl )),`\nb)"), "3")
        self.assertEqual(error("len(a dnl )"), 1)

    def test_dnl_passes_what_results_left(self):
        self.assertEqual(out("define(`f',`x dnl y')f z\nw"), "x w")


class Quotes(unittest.TestCase):
    def test_become_these(self):
        self.assertEqual(out("changequote([,])[a]"), "a")
        self.assertEqual(out("changequote([,],x)[a]"), "a")
        self.assertEqual(full("changequote([,])"), (0, "", 5))

    def test_both_empty(self):
        self.assertEqual(out("changequote([,])changequote(,)`len'"), "len")
        self.assertEqual(out("changequote([,])changequote()`len'"), "len")
        self.assertEqual(out("changequote([,])changequote(,,x)`len'"), "len")

    def test_only_the_closing_one_empty(self):
        self.assertEqual(out("changequote([)[len'"), "len")
        self.assertEqual(out("changequote(<<,)<<len'>"), "len>")
        self.assertEqual(out("changequote([,])changequote({)[a]{b'"), "[a]b")

    def test_only_the_opening_one_empty(self):
        self.assertEqual(out("changequote(,])`a]'"), "`a]'")

    def test_hold_at_once(self):
        self.assertEqual(out("len(changequote([,])[a,b])"), "3")


class Diversions(unittest.TestCase):
    def put_by(self, text):
        """What the nine texts hold behind this one."""
        found = ask(run(text), *[aside(k) for k in range(1, 10)])
        self.assertEqual(found[0][0], 0)
        return [bytes(answer[1:]).decode() for answer in found[1:]]

    def test_divert(self):
        text = "".join("divert({0})t{0}.".format(k) for k in range(10))
        self.assertEqual(self.put_by(text), ["t{0}.".format(k) for k in range(1, 10)])
        self.assertEqual(out(text), "t0.")

    def test_divert_goes_on_with_a_text(self):
        self.assertEqual(self.put_by("divert(2)a`'divert(3)b`'divert(2)c")[1:3], ["ac", "b"])

    def test_divert_above_9_and_below_0(self):
        for k in ("10", "-1", "11", "-2", "9223372036854775807", "-9223372036854775808", "256"):
            self.assertEqual(self.put_by("divert(" + k + ")a"), [""] * 9)
            self.assertEqual(out("divert(" + k + ")a`'divert(0)b"), "b")

    def test_divert_of_few_and_many(self):
        self.assertEqual(out("divert(1)a`'divert()b"), "b")
        self.assertEqual(out("divert(1)a`'divert(0,1)b"), "b")
        self.assertEqual(out("divert(18446744073709551616)b"), "b")

    def test_divert_to_no_number(self):
        self.assertEqual(full("divert(x)b")[:2], (2, ""))

    def test_divnum(self):
        self.assertEqual(out("divnum"), "0")
        self.assertEqual(out("divnum() divnum(a,b)"), "0 0")
        for k, shown in (("9", "9"), ("1", "1"), ("10", "-1"), ("-1", "-1"), ("-7", "-1")):
            self.assertEqual(out("divert(" + k + ")define(`n',divnum)divert(0)n"), shown)
        self.assertEqual(out("len(divnum)"), "1")

    def test_undivert(self):
        text = "divert(1)a`'divert(2)b`'divert(3)c`'divert(0)"
        self.assertEqual(out(text + "undivert(2)undivert(2)"), "b")
        self.assertEqual(out(text + "undivert(3,1,3)"), "ca")
        self.assertEqual(out(text + "undivert()"), "abc")
        self.assertEqual(out(text + "undivert( )"), "abc")
        self.assertEqual(out(text + "undivert(`')"), "abc")
        self.assertEqual(self.put_by(text + "undivert(3,1)")[:3], ["", "b", ""])
        self.assertEqual(self.put_by(text + "undivert()"), [""] * 9)

    def test_undivert_of_others(self):
        text = "divert(1)a`'divert(2)b`'divert(0)"
        self.assertEqual(out(text + "undivert(0,10,-1,99,2,18446744073709551617)"), "ba")
        self.assertEqual(out(text + "undivert(,)undivert(` ')undivert(0)"), "")
        self.assertEqual(self.put_by(text + "undivert(,)")[:2], ["a", "b"])

    def test_undivert_without_a_bracket_is_taken(self):
        self.assertEqual(out("divert(1)a`'divert(0)undivert"), "undivert")

    def test_undivert_of_the_text_that_is_written_to(self):
        text = "divert(1)a`'divert(2)b`'divert(3)c`'divert(2)"
        self.assertEqual(self.put_by(text + "undivert(2)")[:3], ["a", "b", "c"])
        self.assertEqual(self.put_by(text + "undivert(3,2,1)d")[:3], ["", "bcad", ""])
        self.assertEqual(self.put_by(text + "undivert()d")[:3], ["", "bacd", ""])

    def test_undivert_nowhere(self):
        text = "divert(1)a`'divert(2)b`'divert(-1)"
        self.assertEqual(self.put_by(text + "undivert(1)")[:2], ["", "b"])
        self.assertEqual(out(text + "undivert()divert(0)undivert()"), "")

    def test_undivert_is_not_read_again(self):
        self.assertEqual(out("divert(1)`len(a)'divert(0)undivert(1)"), "len(a)")

    def test_undivert_within_a_call_is_written(self):
        self.assertEqual(out("divert(1)abc`'divert(0)len(undivert(1)x)"), "abc1")

    def test_undivert_of_no_number(self):
        found = ask(run("divert(1)a`'divert(0)"), run("undivert(1,x)"), aside(1))
        self.assertEqual(told(found[1]), (2, "", 5))
        self.assertEqual(found[2], [1, 97])


if __name__ == "__main__":
    unittest.main()
