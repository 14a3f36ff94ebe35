"""Promise 2, Tokens."""

import unittest

from tests.helper import ask, aside, error, full, out, runs


class Quotes(unittest.TestCase):
    def test_one_text_taken_as_it_is(self):
        self.assertEqual(full("`a'"), (0, "a", 1))
        self.assertEqual(full("`define(`a',`b')'"), (0, "define(`a',`b')", 1))
        self.assertEqual(full("`# a'b\n"), (0, "# ab\n", 3))
        self.assertEqual(full("`'"), (0, "", 1))

    def test_within_quotes(self):
        self.assertEqual(full("`a`b'c'"), (0, "a`b'c", 1))
        self.assertEqual(full("``a''`b'"), (0, "`a'b", 2))
        self.assertEqual(full("`" * 9 + "'" * 9), (0, "`" * 8 + "'" * 8, 1))

    def test_closing_one_by_itself(self):
        self.assertEqual(full("'a'"), (0, "'a'", 3))

    def test_text_ends_within(self):
        self.assertEqual(full("a`b"), (1, "a", 2))
        self.assertEqual(full("`"), (1, "", 1))
        self.assertEqual(full("``a'"), (1, "", 1))
        self.assertEqual(full("a b `c' `d`e'"), (1, "a b c ", 7))
        self.assertEqual(full("len(`a"), (1, "", 2))

    def test_others_than_at_first(self):
        self.assertEqual(out("changequote([,])[a[b]c]`d'"), "a[b]c`d'")
        self.assertEqual(out("changequote({)[a]{b'"), "[a]b")
        self.assertEqual(out("changequote([,])changequote`'"), "changequote`'")
        self.assertEqual(out("changequote([,])changequote()[`a']"), "[a]")

    def test_several_bytes(self):
        self.assertEqual(full("changequote(<<,>>)<<a<<b>>c>><d>"), (0, "a<<b>>c<d>", 11))
        self.assertEqual(out("changequote(<<,>>)<<a>b<c>>"), "a>b<c")
        self.assertEqual(out("changequote(<,>>)<a<b>>c>>>"), "a<b>>c>")
        self.assertEqual(out("changequote(<<,>)<<a<b<<c>d>e>"), "a<b<<c>de>")

    def test_several_bytes_end_within(self):
        for text in ("<<", "<<a", "<<a>", "<<a<<b>>", "<<a> >"):
            self.assertEqual(error("changequote(<<,>>)" + text), 1, text)
        self.assertEqual(full("changequote(<<,>>)<"), (0, "<", 8))
        self.assertEqual(runs("changequote(`<',`>\n')<a>")[0][0], 1)
        self.assertEqual(runs("changequote(`<\n',`>')<")[0], (0, "<", 6))
        for byte in range(256):
            if chr(byte) not in "`'<>":
                self.assertEqual(full("changequote(`<" + chr(byte) + "',`>')<"), (0, "<", 6))
                self.assertEqual(error("changequote(`<<',`>" + chr(byte) + "')<<a>"), 1)

    def test_closing_one_is_looked_for_first(self):
        self.assertEqual(full("changequote(|,|)|a|b|c|"), (0, "abc", 8))
        self.assertEqual(out("changequote(ab,a)ab c ab"), " c b")
        self.assertEqual(out("changequote(<<,<)<<a<b"), "ab")

    def test_overlapping_quotes_are_met_from_the_left(self):
        self.assertEqual(out("changequote(`+-',`-+')+-a+-+b-+-+."), "a+-+b-+.")

    def test_letters_as_quotes(self):
        self.assertEqual(out("changequote(begin,end)begin a begin b endend"), " a begin b end")
        self.assertEqual(out("changequote(x,y)ax x1y"), "ax 1")

    def test_before_all_other_tokens(self):
        self.assertEqual(out("changequote(`#',`!')#a!b"), "ab")
        self.assertEqual(full("changequote(`1',`2')(123"), (0, "(3", 8))
        self.assertEqual(out("define(`f',`<$1>')changequote(`(',`)')f(a)"), "<a>")
        self.assertEqual(out("define(`f',`<$1>')changequote(`,',`;')f(a,b);c;d)"), "<ab)c;d>")

    def test_empty_opening_one(self):
        self.assertEqual(full("changequote(`',`x')`a'x"), (0, "`a'x", 9))
        self.assertEqual(out("define(`a',`b')changequote(,])[a]`a'"), "[b]`b'")

    def test_of_bytes_beyond_ascii(self):
        self.assertEqual(out("changequote(\xab,\xbb)\xaba\xabb\xbb\xbb\0"), "a\xabb\xbb\0")


class Comments(unittest.TestCase):
    def test_up_to_the_line_end_with_it(self):
        self.assertEqual(full("define(`a',`b')a # a `a a\na"), (0, "b # a `a a\nb", 11))
        self.assertEqual(full("#\n#\n"), (0, "#\n#\n", 2))

    def test_up_to_the_text_end(self):
        self.assertEqual(full("#a b"), (0, "#a b", 1))
        self.assertEqual(full("#"), (0, "#", 1))

    def test_within_a_call(self):
        self.assertEqual(out("len(#),\n)"), "4")
        self.assertEqual(error("len(#)"), 1)
        self.assertEqual(out("define(`f',`$2')f(a,\n # b\nc)"), "# b\nc")

    def test_goes_on_behind_a_result(self):
        self.assertEqual(full("define(`h',`#')h h\nh"), (0, "# h\n#", 9))


class Names(unittest.TestCase):
    def test_with_letters_digits_and_underline(self):
        self.assertEqual(out("define(`a_1Z',`x')a_1Z a_1 a_1Zz 1a_1Z"), "x a_1 a_1Zz 1x")
        self.assertEqual(out("define(`_',`x')_ __ _"), "x __ x")
        self.assertEqual(out("define(`Az',`x')Az az"), "x az")

    def test_as_one_token(self):
        self.assertEqual(full("abc_9"), (0, "abc_9", 1))
        self.assertEqual(full("9abc"), (0, "9abc", 2))
        self.assertEqual(full("12"), (0, "12", 2))
        self.assertEqual(full("a@b[c{d^e\x7f"), (0, "a@b[c{d^e\x7f", 10))

    def test_bytes_beyond_ascii_are_no_letters(self):
        self.assertEqual(full("\xe4\xf6\xffa\0"), (0, "\xe4\xf6\xffa\0", 5))

    def test_that_stands_for_nothing(self):
        self.assertEqual(full("abc(d)"), (0, "abc(d)", 4))
        self.assertEqual(out("len(abc(d,e),f)"), "8")

    def test_without_a_bracket(self):
        self.assertEqual(full("define(`a',`[$#$1$*$@]')a"), (0, "[0]", 9))
        self.assertEqual(out("define(`a',`[$#]')a (b)"), "[0] (b)")

    def test_with_a_bracket(self):
        self.assertEqual(out("define(`a',`[$#]')a()a(b)a(b,c)"), "[1][1][2]")

    def test_bracket_is_passed_with_the_name(self):
        self.assertEqual(full("len()"), (0, "0", 3))

    def test_bracket_of_what_comes_behind_a_result(self):
        self.assertEqual(out("define(`a',`len')a(bc)"), "len")
        self.assertEqual(out("define(`a',`len')a`'(bc)"), "len(bc)")
        self.assertEqual(out("define(`a',`l')define(`b',`a()e')b()n(xyz)"), "3")


class BuiltIn(unittest.TestCase):
    OTHERS = ("define", "pushdef", "popdef", "undefine", "defn", "ifdef", "ifelse", "shift", "incr", "decr",
              "len", "index", "substr", "translit", "eval", "changequote", "divert", "undivert")

    def test_taken_as_they_are_without_a_bracket(self):
        for name in self.OTHERS:
            self.assertEqual(full(name), (0, name, 1))
            self.assertEqual(full(name + " ()"), (0, name + " ()", 4))

    def test_dnl_and_divnum_without_a_bracket(self):
        self.assertEqual(full("dnl a\nb"), (0, "b", 2))
        self.assertEqual(full("divnum"), (0, "0", 2))

    def test_others_are_no_names_that_stand_for_something(self):
        for name in ("include", "m4exit", "format", "quote", "Len", "LEN", "changecom", "esyscmd"):
            self.assertEqual(full("ifdef(`" + name + "',y,n)")[1], "n")
            self.assertEqual(full("ifdef(`len',y,n)")[1], "y")


class CallsBeingRead(unittest.TestCase):
    SHOW = "define(`f',`<$1|$2|$3>')"

    def f(self, arguments):
        return out(self.SHOW + "f(" + arguments + ")")

    def test_one_argument_at_least(self):
        self.assertEqual(out("define(`f',`$#')f()"), "1")
        self.assertEqual(out("define(`f',`$#')f(,)"), "2")

    def test_commas(self):
        self.assertEqual(self.f("a,b,c"), "<a|b|c>")
        self.assertEqual(self.f(",,c"), "<||c>")
        self.assertEqual(self.f("`a,b',c"), "<a,b|c|>")

    def test_brackets_within(self):
        self.assertEqual(self.f("(a,b),c"), "<(a,b)|c|>")
        self.assertEqual(self.f("((a),(b,(c))),d"), "<((a),(b,(c)))|d|>")
        self.assertEqual(self.f("(,),(,)"), "<(,)|(,)|>")
        self.assertEqual(self.f("`(',`)'"), "<(|)|>")

    def test_blanks_where_an_argument_begins(self):
        self.assertEqual(self.f(" a b ,\t\n\x0b\x0c\r c"), "<a b |c|>")
        self.assertEqual(self.f("\x08a,\x0eb,\x1fc"), "<\x08a|\x0eb|\x1fc>")
        self.assertEqual(self.f("  ,  ,  "), "<||>")
        self.assertEqual(self.f("( a, b)"), "<( a, b)||>")
        self.assertEqual(self.f("x( a, b)"), "<x( a, b)||>")

    def test_quoted_text_begins_one(self):
        self.assertEqual(self.f("` a', `' b,`'  "), "< a| b|  >")

    def test_result_does_not_begin_one(self):
        self.assertEqual(out("define(`e')" + self.SHOW + "f(e x,e e y)"), "<x|y|>")
        self.assertEqual(out("define(`e',` ')" + self.SHOW + "f(e x,`'e)"), "<x| |>")
        self.assertEqual(self.f("dnl a\n b"), "<b||>")

    def test_each_passed_blank_is_a_step(self):
        self.assertEqual(full("len(   )"), (0, "0", 6))

    def test_text_ends_within(self):
        self.assertEqual(full("len("), (1, "", 1))
        self.assertEqual(full("a len(b,(c)"), (1, "a ", 8))
        self.assertEqual(full("len(len(a)"), (1, "", 5))
        self.assertEqual(error("len((a)"), 1)

    def test_innermost_gets_what_is_taken(self):
        self.assertEqual(out("len(len(abc)len(defghijklmn)`'x)"), "4")
        self.assertEqual(self.f("f(a,b),f(,c)"), "<<a|b|>|<|c|>|>")

    def test_arguments_are_worked_out_first(self):
        self.assertEqual(out("define(`a',`b,c')" + self.SHOW + "f(a)f(`a')"), "<b|c|><b,c||>")

    def test_brackets_and_commas_outside_calls_are_written(self):
        self.assertEqual(full("),(("), (0, "),((", 4))

    def test_what_a_name_stood_for_when_its_call_began(self):
        self.assertEqual(out("define(`f',`old')f(define(`f',`new')) f"), "old new")
        self.assertEqual(out("define(`f',`old$1')f(undefine(`f')x)f"), "oldxf")
        self.assertEqual(out("len(undefine(`len')abc)len"), "3len")


class ReadAgain(unittest.TestCase):
    def test_results_go_before_the_rest(self):
        self.assertEqual(out("define(`a',`b')define(`b',`c')a"), "c")
        self.assertEqual(out("define(`a',`len(')a`'xyz)"), "3")
        self.assertEqual(out("define(`a',``b'')define(`b',`c')a"), "b")
        self.assertEqual(out("define(`a',`$1')define(`b',`c')a(``b'')a(`b')"), "bc")

    def test_result_and_rest_are_one_name(self):
        self.assertEqual(out("define(`ab',`x')define(`f',`a')f()b f()c"), "x ac")

    def test_result_opens_a_quote_that_the_rest_ends(self):
        self.assertEqual(out("changequote([,])define(q,[changequote(<,>)])define(o,[<])q()o()a a>o()b>"), "a ab")

    def test_numbers_are_read_byte_by_byte(self):
        self.assertEqual(full("incr(1234)"), (0, "1235", 10))


class Written(unittest.TestCase):
    def test_out_to_a_text_put_by_or_nowhere(self):
        found = ask([1, 1000, 1000] + self.counted("a`'divert(3)b`'divert(-1)c`'divert(10)d`'divert(0)e"), aside(3))
        self.assertEqual(found[0][3:], list(b"ae"))
        self.assertEqual(found[1], [1] + list(b"b"))

    def counted(self, text):
        return [len(text)] + list(text.encode())

    def test_divert_within_a_call_does_not_move_arguments(self):
        self.assertEqual(out("len(divert(-1)abc)divert(0)len(x)"), "1")


if __name__ == "__main__":
    unittest.main()
