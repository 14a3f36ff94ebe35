"""The interface: one list of calls on one object."""

import unittest

from tests.helper import OPEN, aside, row, run
from textmill.desk import answers


class Interface(unittest.TestCase):
    def test_counts_stand_ahead(self):
        calls = OPEN + run("a b") + run("divert(2)xyz") + aside(2, 2) + aside(0) + OPEN + aside(2)
        self.assertEqual(answers(calls), [1, 0] + [6, 0, 3, 3] + row("a b") + [3, 0, 0, 4] + [3, 2] + row("xy") +
                         [1, -2] + [1, 0] + [1, 0])

    def test_error_is_no_refusal(self):
        self.assertEqual(answers(OPEN + run("ab.`")), [1, 0, 6, 1, 3, 3] + row("ab."))
        self.assertEqual(answers(OPEN + run("ab.incr(x)")), [1, 0, 6, 2, 3, 5] + row("ab."))

    def test_empty_text(self):
        self.assertEqual(answers([0, 1, 0, 0, 0]), [1, 0, 3, 0, 0, 0])

    def test_numbers_alone(self):
        for number in answers(OPEN + run("a eval(1==1)`") + aside(1) + aside(-5)):
            self.assertIs(int, number.__class__)

    def test_what_is_handed_in_stays(self):
        calls = OPEN + run("define(`a',`b')a`'divert(1)a") + aside(1) + run("undivert()") + OPEN
        before = list(calls)
        answers(calls)
        self.assertEqual(calls, before)

    def test_answer_is_a_list_of_its_own(self):
        calls = OPEN + run("abc")
        first = answers(calls)
        first.append(5)
        self.assertEqual(answers(calls), first[:-1])
        self.assertIs(list, first.__class__)

    def test_nothing_is_kept(self):
        calls = OPEN + run("a`'define(`a',`b')changequote([,])divert(1)undefine([len])x")
        self.assertEqual(answers(calls), answers(calls))
        self.assertEqual(answers(OPEN + run("`a'len(a)divnum") + aside(1))[2:], [6, 0, 3, 7] + row("a10") + [1, 0])

    def test_many_calls(self):
        calls = OPEN + run("define(`n',`0')divert(1)") + run("define(`n',incr(n))n ") * 298
        self.assertEqual(len(answers(calls)), 2 + 4 + 298 * 4)
        self.assertEqual(answers(OPEN * 300), [1, 0] * 300)

    def test_long_text(self):
        for text in ("a" * 29995, "." * 29995, "`" + "a" * 29993 + "'", "#" + "a" * 29994):
            self.assertEqual(answers(OPEN + run(text))[2:5], [3 + len(text.strip("`'")), 0, len(text.strip("`'"))])

    def test_deep_text(self):
        deep = 14900
        self.assertEqual(answers(OPEN + run("`" * deep + "'" * deep))[3:6], [0, 2 * deep - 2, 1])
        brackets = "len(" + "(" * deep + ")" * deep + ")"
        self.assertEqual(answers(OPEN + run(brackets))[6:], row(str(2 * deep)))
        quotes = "changequote(<<,>>)" + "<<" * 7000 + ">>" * 7000
        self.assertEqual(answers(OPEN + run(quotes))[3:6], [0, 28000 - 4, 8])


if __name__ == "__main__":
    unittest.main()
