"""Promise 2, Bounds, and what an error leaves."""

import unittest

from tests.helper import ask, aside, error, full, out, row, run, runs, told

# d(x) is x four times: more bytes than a text itself can have.
FOUR = "define(`d',`$1$1$1$1')"
# What is built in: its names, and 16 more each.
BUILT_IN = 435


def dots(count):
    """A text that comes to so many dots behind FOUR."""
    return "d(" + "." * (count // 4) + ")" + "." * (count % 4)


class Steps(unittest.TestCase):
    def test_none_left(self):
        self.assertEqual(full("abc def", 0), (3, "", 0))
        self.assertEqual(full("abc def", 1), (3, "abc", 1))
        self.assertEqual(full("abc def", 2), (3, "abc ", 2))
        self.assertEqual(full("abc def", 3), (0, "abc def", 3))
        self.assertEqual(full("abc def", 4), (0, "abc def", 3))

    def test_nothing_to_read(self):
        self.assertEqual(full("", 0), (0, "", 0))
        self.assertEqual(full("", 5), (0, "", 0))

    def test_result_that_is_still_to_be_read(self):
        self.assertEqual(full("len()", 2), (3, "", 2))
        self.assertEqual(full("dnl abc", 1), (0, "", 1))

    def test_text_without_end(self):
        self.assertEqual(full("define(`f',`f')f", 5000), (3, "", 5000))
        self.assertEqual(full("define(`f',`f(`$1')')f(a)", 1000), (3, "", 1000))

    def test_most_steps(self):
        self.assertEqual(full("define(`f',`f')f", 1000000), (3, "", 1000000))

    def test_end_within_a_call_is_told_without_steps_left(self):
        self.assertEqual(full("len(a", 2), (1, "", 2))
        self.assertEqual(full("len(a", 1), (3, "", 1))

    def test_end_within_a_quote_needs_a_step(self):
        self.assertEqual(full("a`b", 1), (3, "a", 1))
        self.assertEqual(full("a`b", 2), (1, "a", 2))

    def test_step_in_error_counts(self):
        self.assertEqual(full("a.incr(x).")[2], 5)
        self.assertEqual(full("`a' `b")[2], 3)
        self.assertEqual(full("ab", 10, 1), (4, "", 1))


class StillToBeRead(unittest.TestCase):
    def test_just_met(self):
        self.assertEqual(full(FOUR + dots(65536)), (0, "." * 65536, 5 + 3 + 16384 - 1 + 65536))
        self.assertEqual(full(FOUR + "d(" + "." * 16383 + ")....")[:2], (0, "." * 65536))

    def test_just_passed(self):
        self.assertEqual(full(FOUR + dots(65536) + "."), (4, "", 5 + 2 + 16384))
        self.assertEqual(full(FOUR + "d(" + "." * 16385 + ")")[0], 4)

    def test_without_a_bracket(self):
        # Several runs, as the definition leaves no room for what follows it.
        found = runs(FOUR + "define(`h'," + dots(60000) + ")", "h" + " " * 5536, "h" + " " * 5537)
        self.assertEqual(found[1], (0, "." * 60000 + " " * 5536, 1 + 65536))
        self.assertEqual(found[2], (4, "", 1))
        self.assertEqual(error("define(`x',`x x')x"), 4)

    def test_of_what_is_built_in(self):
        text = FOUR + "define(`e'," + dots(60000) + ")"
        found = runs(text, "len(defn(`e'))", "defn(`e')" + " " * 5534, "defn(`e')" + " " * 5535)
        self.assertEqual(found[1][:2], (0, "60000"))
        self.assertEqual(found[2], (0, "." * 60000 + " " * 5534, 3 + 1 + 5534))
        self.assertEqual(found[3], (4, "", 3))

    def test_shift_and_all_in_long_quotes(self):
        quotes = "changequote(" + "<" * 9000 + "," + ">" * 9000 + ")"
        self.assertEqual(error("define(`f',`$@')" + quotes + "f(" + "," * 1024 + ")"), 4)
        self.assertEqual(error(quotes + "shift(" + "," * 1024 + ")"), 4)
        self.assertEqual(out(quotes + "shift(,,,)"), ",,")

    def test_shift_just_met_and_passed(self):
        text = "changequote(`" + "<" * 6551 + "',`>')shift(" + "," * 10 + ")"
        self.assertEqual(error(text + "." * (65536 - 10 * 6552 - 9)), 0)
        self.assertEqual(error(text + "." * (65537 - 10 * 6552 - 9)), 4)

    def test_all_in_quotes_just_met_and_passed(self):
        text = "define(`f',`$@')changequote(`<',`" + ">" * 6551 + "')f(" + "," * 9 + ")"
        self.assertEqual(error(text + "." * (65536 - 10 * 6552 - 9)), 0)
        self.assertEqual(error(text + "." * (65537 - 10 * 6552 - 9)), 4)

    def test_text_with_many_dollars(self):
        self.assertEqual(error("define(`f',`" + "$*" * 9000 + "')f(" + "a" * 9000 + ")"), 4)


class HeldInCalls(unittest.TestCase):
    def test_name_and_arguments(self):
        self.assertEqual(out(FOUR + "len(" + dots(65533) + ")"), "65533")
        self.assertEqual(error(FOUR + "len(" + dots(65534) + ")"), 4)

    def test_text_stood_for_when_it_began(self):
        text = FOUR + "define(`t',`0123456789')t("
        self.assertEqual(out(text + dots(65525) + ")"), "0123456789")
        self.assertEqual(error(text + dots(65526) + ")"), 4)
        self.assertEqual(out(text + "define(`t')" + dots(65525) + ")"), "0123456789")
        self.assertEqual(error(text + "define(`t')" + dots(65526) + ")"), 4)

    def test_several_arguments(self):
        self.assertEqual(out(FOUR + "len(" + dots(30000) + "," + dots(35533) + ")"), "30000")
        self.assertEqual(error(FOUR + "len(" + dots(30000) + "," + dots(35534) + ")"), 4)

    def test_several_calls(self):
        self.assertEqual(out(FOUR + "len(" + dots(30000) + "eval(1+len(" + dots(35523) + ")))"), "30005")
        self.assertEqual(error(FOUR + "len(" + dots(30000) + "eval(1+len(" + dots(35525) + ")))"), 4)

    def test_call_that_begins(self):
        text = FOUR + "define(`t',`0123456789')len(" + dots(65522)
        self.assertEqual(out(text + "t())"), "65532")
        self.assertEqual(error(text + ".t())"), 4)
        self.assertEqual(out(text + ".t)"), "65533")

    def test_ended_calls_count_no_more(self):
        self.assertEqual(out(FOUR + "len(len(" + dots(40000) + ")len(" + dots(40000) + "))"), "10")

    def test_passed_blanks_do_not_count(self):
        self.assertEqual(out("define(`s',`" + " " * 14000 + "')len(s()s()s()s()s()s()a)"), "1")


class Calls(unittest.TestCase):
    def test_just_met(self):
        self.assertEqual(full("len(" * 256 + ")" * 256), (0, "1", 256 + 256 + 256))
        self.assertEqual(error("define(`f',`$1')" + "f(" * 256 + ")" * 256), 0)

    def test_just_passed(self):
        self.assertEqual(full("len(" * 257 + ")" * 257), (4, "", 257))

    def test_without_a_bracket_none_is_read(self):
        self.assertEqual(out("define(`f',`x')" + "len(" * 256 + "f" + ")" * 256), "1")

    def test_brackets_are_no_calls(self):
        self.assertEqual(out("len(" + "(" * 3000 + ")" * 3000 + ")"), "6000")


class Arguments(unittest.TestCase):
    def test_just_met(self):
        self.assertEqual(out("define(`n',`$#')n(" + "," * 1024 + ")"), "1025")
        self.assertEqual(out("len(" + "," * 1024 + ")"), "0")

    def test_just_passed(self):
        self.assertEqual(full("len(" + "," * 1025 + ")"), (4, "", 1026))

    def test_are_those_of_one_call(self):
        self.assertEqual(out("len(" + "," * 700 + "len(" + "," * 700 + "))"), "0")

    def test_commas_that_end_none_do_not_count(self):
        self.assertEqual(out("len((" + "," * 2000 + "))"), "2002")


class NamesAndTexts(unittest.TestCase):
    ROOM = 65536 - BUILT_IN - (1 + 8 + 16)

    def test_define(self):
        size = self.ROOM - 17
        self.assertEqual(out(FOUR + "define(`e'," + dots(size) + ")ifdef(`e',y)"), "y")
        self.assertEqual(error(FOUR + "define(`e'," + dots(size + 1) + ")"), 4)
        self.assertEqual(error(FOUR + "define(`ee'," + dots(size) + ")"), 4)

    def test_pushdef(self):
        size = self.ROOM - 17
        self.assertEqual(out(FOUR + "pushdef(`e'," + dots(size) + ")ifdef(`e',y)"), "y")
        self.assertEqual(error(FOUR + "pushdef(`e'," + dots(size + 1) + ")"), 4)

    def test_each_counts_with_its_name(self):
        size = self.ROOM - 17 - (3 + 2 + 16) - (3 + 16)
        text = FOUR + "pushdef(`abc',`xy')pushdef(`abc')"
        self.assertEqual(error(text + "define(`e'," + dots(size) + ")"), 0)
        self.assertEqual(error(text + "define(`e'," + dots(size + 1) + ")"), 4)

    def test_what_goes_counts_no_more(self):
        text = FOUR + "pushdef(`abc',`xy')pushdef(`abc')popdef(`abc',`abc')define(`e'," + dots(self.ROOM - 17) + ")"
        self.assertEqual(error(text), 0)
        self.assertEqual(error(text.replace("popdef(`abc',`abc')", "undefine(`abc')")), 0)
        self.assertEqual(error(text.replace("popdef(`abc',`abc')", "popdef(`abc')")), 4)

    def test_what_is_built_in_counts_its_name(self):
        text = FOUR + "undefine(`changequote')define(`e'," + dots(self.ROOM - 17 + 27)
        self.assertEqual(error(text + ")"), 0)
        self.assertEqual(error(text + ".)"), 4)
        text = FOUR + "define(`len',`x')define(`e'," + dots(self.ROOM - 17 - 1)
        self.assertEqual(error(text + ")"), 0)
        self.assertEqual(error(text + ".)"), 4)

    def test_instead_of_the_latest(self):
        big = "define(`e'," + dots(self.ROOM - 17) + ")"
        found = runs(FOUR + big, big, "define(`f')", "define(`e',`.')define(`f')")
        self.assertEqual([answer[0] for answer in found], [0, 0, 4, 0])

    def test_instead_of_the_latest_of_two(self):
        text = FOUR + "pushdef(`e',`1234567')pushdef(`e',`123')define(`e'," + dots(self.ROOM - 17 - 24)
        self.assertEqual(error(text + ")"), 0)
        self.assertEqual(error(text + ".)"), 4)

    def test_many_small(self):
        count = (65536 - BUILT_IN - (1 + 13 + 16)) // 17
        text = "define(`p',`pushdef(`a')p')p"
        self.assertEqual(full(text), (4, "", 5 + 1 + 4 * count + 3))

    def test_token_in_error_does_nothing(self):
        found = runs(FOUR + "define(`e',`old')", "define(`e'," + dots(65060) + ")", "e`'popdef(`e')e")
        self.assertEqual(found[1], (4, "", 3 + 1 + 16265 + 1 + 65060 + 1))
        self.assertEqual(found[2][:2], (0, "olde"))
        found = runs(FOUR + "define(`e',`old')", "pushdef(`e'," + dots(65060) + ")", "e`'popdef(`e')e")
        self.assertEqual(found[1:], [(4, "", 3 + 1 + 16265 + 1 + 65060 + 1), (0, "olde", 7)])


class PutBy(unittest.TestCase):
    def test_just_met_and_passed(self):
        found = ask(run(FOUR + "divert(1)" + dots(65536)), run("."), aside(1), run("."), aside(1))
        self.assertEqual(found[0][:2], [0, 0])
        self.assertEqual(found[1], [4, 0, 1])
        self.assertEqual(found[2], [65536] + [46] * 65536)
        self.assertEqual(found[3:], [[0, 0, 1], [1, 46]])

    def test_all_together(self):
        text = FOUR + "divert(1)" + dots(30000) + "divert(9)" + dots(35536)
        found = ask(run(text), run("divert(5).."), run("divert(-1).divert(0)."), aside(9, 1), run("divert(5)..."),
                    aside(5))
        self.assertEqual(found[0][:2], [0, 0])
        self.assertEqual(found[1:3], [[4, 0, 4], [0, 1, 9, 46]])
        self.assertEqual(found[4], [4, 0, 5])
        self.assertEqual(found[5], [1, 46])

    def test_token_in_error_puts_nothing_by(self):
        found = ask(run(FOUR + "divert(1)" + dots(65530)), run("divert(2)`1234567'"), aside(2), run("`123456'"), aside(2))
        self.assertEqual(found[1], [4, 0, 4])
        self.assertEqual(found[2], [0])
        self.assertEqual(found[3:], [[0, 0, 1], [6] + row("123456")])

    def test_moved_by_undivert_they_count_once(self):
        found = ask(run(FOUR + "divert(1)" + dots(65536)), run("divert(2)undivert(1)"), aside(1), aside(2))
        self.assertEqual(found[1][0], 0)
        self.assertEqual(found[2:], [[0], [65536] + [46] * 65536])

    def test_written_out_by_undivert_they_count_no_more(self):
        found = ask(run(FOUR + "divert(1)" + dots(65536)), run("divert(0)undivert(1)divert(1)" + dots(65536)))
        self.assertEqual(found[1][:2], [0, 65536])
        found = ask(run(FOUR + "divert(1)" + dots(65536)), run("divert(-1)undivert(1)divert(1)" + dots(65536)))
        self.assertEqual(found[1][:2], [0, 0])


class Written(unittest.TestCase):
    def test_just_met_and_passed(self):
        self.assertEqual(full("a.b", 10, 3), (0, "a.b", 3))
        self.assertEqual(full("a.b", 10, 2), (4, "a.", 3))
        self.assertEqual(full("a.b", 10, 0), (4, "", 1))
        self.assertEqual(full("", 10, 0), (0, "", 0))

    def test_token_in_error_writes_nothing(self):
        self.assertEqual(full("abcd", 10, 3), (4, "", 1))
        self.assertEqual(full(".`abcd'", 10, 4), (4, ".", 2))
        self.assertEqual(full(".`abcd'", 10, 5), (0, ".abcd", 2))
        self.assertEqual(full("#abc\n", 10, 4), (4, "", 1))
        self.assertEqual(full("`'`'", 10, 0), (0, "", 2))

    def test_only_what_goes_out(self):
        self.assertEqual(full("divert(1)abc`'divert(-1)def", 20, 0)[0], 0)
        self.assertEqual(full("define(`a',`b')len(abcd)", 20, 1)[:2], (0, "4"))

    def test_each_run_by_itself(self):
        found = ask(run("abc", 10, 3), run("def", 10, 3))
        self.assertEqual([told(answer) for answer in found], [(0, "abc", 1), (0, "def", 1)])

    def test_undivert(self):
        text = "divert(1)abc`'divert(2)de`'divert(0)"
        found = ask(run(text), run(".undivert(1,2)", 20, 5), run("divnum`'undivert(2,1)", 20, 6), aside(1))
        self.assertEqual(told(found[1]), (4, ".", 6))
        self.assertEqual(told(found[2]), (0, "0deabc", 8))
        self.assertEqual(found[3], [0])

    def test_undivert_to_a_text_needs_none(self):
        found = ask(run("divert(1)abc`'divert(2)undivert(1)", 20, 0), aside(2))
        self.assertEqual(found, [[0, 0, 11], [3] + row("abc")])


class Left(unittest.TestCase):
    """What an error leaves for the next run."""

    def test_calls_are_dropped(self):
        self.assertEqual(runs("len(abc,(", ") , (a) len(b)")[1], (0, ") , (a) 1", 12))
        self.assertEqual(runs("len(len(incr(x)", ")")[1], (0, ")", 1))
        found = ask(run("len(abc", 1), run(")"), run("len(" * 257), run("len(" * 256 + ")" * 256))
        self.assertEqual([answer[0] for answer in found], [3, 0, 4, 0])

    def test_what_was_held_is_dropped(self):
        found = runs(FOUR + "len(" + dots(65533), "len(" + dots(65533) + ")")
        self.assertEqual([found[0][0], found[1][:2]], [1, (0, "65533")])

    def test_rest_of_the_text_is_dropped(self):
        self.assertEqual(runs("incr(x)abc", "d")[1], (0, "d", 1))

    def test_all_the_rest_stays(self):
        for last in ("len(", "`", "[", "incr(x)", "len(" * 257, "define(`f',`f f')f"):
            text = "define(`a',`b')divert(2)x`'divert(3)y`'changequote([,])" + last.replace("`", "[").replace("'", "]")
            found = ask(run(text), run("[a]a`'divnum"), aside(2), aside(3))
            self.assertNotEqual(found[0][0], 0, last)
            self.assertEqual(found[1][:2], [0, 0])
            self.assertEqual(found[2:], [[1] + row("x"), [6] + row("yab`'3")])

    def test_no_step_left_leaves_what_was_done(self):
        found = ask(run("define(`a',`b')define(`a',`c')", 9), run("a"))
        self.assertEqual([found[0], told(found[1])], [[3, 0, 9], (0, "b", 2)])
        found = ask(run("define(`a',`b')define(`a',`c')", 10), run("a"))
        self.assertEqual([found[0], told(found[1])], [[0, 0, 10], (0, "c", 2)])

    def test_token_in_error_does_not_divert(self):
        self.assertEqual(runs("divert(3x)", "a`'divnum")[1], (0, "a0", 4))

    def test_what_was_written_is_told(self):
        self.assertEqual(full("abc incr(x) def")[:2], (2, "abc "))

    def test_first_error_is_told(self):
        self.assertEqual(error("len(incr(x)`"), 2)
        self.assertEqual(error("eval(1/0)incr("), 2)
        self.assertEqual(error("undivert(x)`"), 2)


if __name__ == "__main__":
    unittest.main()
