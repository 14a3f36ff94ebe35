"""Promise 1."""

import unittest

from tests.helper import OPEN, ask, aside, run, told
from textmill.desk import answers


class Open(unittest.TestCase):
    def test_answers_0(self):
        self.assertEqual(answers([0]), [1, 0])
        self.assertEqual(answers([0, 0, 0]), [1, 0, 1, 0, 1, 0])

    def after(self, before, later):
        """What `later` comes to behind `before` and a second open."""
        found = ask(run(before), OPEN, run(later))
        self.assertEqual(found[1], [0])
        return told(found[2])

    def test_again_forgets_definitions(self):
        self.assertEqual(self.after("define(`a',`b')a", "a"), (0, "a", 1))
        self.assertEqual(self.after("pushdef(`a',`b')a", "ifdef(`a',y,n)")[1], "n")

    def test_again_brings_back_what_is_built_in(self):
        self.assertEqual(self.after("undefine(`len',`define')", "len(abc)")[1], "3")
        self.assertEqual(self.after("define(`len',`x')", "len(abc)")[1], "3")
        self.assertEqual(self.after("pushdef(`len',`x')", "popdef(`len')len(abc)")[1], "len(abc)")

    def test_again_brings_back_the_quotes(self):
        self.assertEqual(self.after("changequote([,])[a]", "[`b']")[1], "[b]")

    def test_again_puts_nothing_by(self):
        found = ask(run("divert(1)one`'divert(9)nine"), OPEN, aside(1), aside(9), run("undivert()"))
        self.assertEqual(found[2:4], [[0], [0]])
        self.assertEqual(told(found[4])[1], "")

    def test_again_writing_goes_out(self):
        self.assertEqual(self.after("divert(3)x", "y`'divnum")[1], "y0")
        self.assertEqual(self.after("divert(-1)x", "y`'divnum")[1], "y0")

    def test_again_gives_back_all_room(self):
        text = "divert(1)define(`d',`$1$1$1$1')d(" + "." * 16384 + ")"
        found = ask(run(text), OPEN, run(text))
        self.assertEqual([found[0][0], found[2][0]], [0, 0])

    def test_without_an_open_all_stays(self):
        found = ask(run("define(`a',`b')changequote([,])divert(2)"), run("a[a]"), aside(2))
        self.assertEqual(found[2], [2] + list(b"ba"))


if __name__ == "__main__":
    unittest.main()
