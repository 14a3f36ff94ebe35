"""Promise 3."""

import unittest

from tests.helper import ask, aside, row, run, told

TEXTS = "divert(1)one`'divert(2)twotwo`'divert(9)nine`'divert(0)"


class Aside(unittest.TestCase):
    def test_each_text(self):
        text = "".join("divert({0})t{0}.".format(k) for k in range(1, 10))
        found = ask(run(text), *[aside(k) for k in range(1, 10)])
        self.assertEqual(found[1:], [[3] + row("t{0}.".format(k)) for k in range(1, 10)])

    def test_nothing_put_by(self):
        self.assertEqual(ask(aside(1), aside(9, 0)), [[0], [0]])

    def test_taken_away(self):
        found = ask(run(TEXTS), aside(2), aside(2), aside(1), run("undivert()"))
        self.assertEqual(found[1:4], [[6] + row("twotwo"), [0], [3] + row("one")])
        self.assertEqual(told(found[4])[1], "nine")

    def test_most(self):
        found = ask(run(TEXTS), aside(2, 0), aside(2, 4), aside(2, 1), aside(2, 1), aside(2, 1))
        self.assertEqual(found[1:], [[0], [4] + row("twot"), [1] + row("w"), [1] + row("o"), [0]])
        self.assertEqual(ask(run(TEXTS), aside(2, 6), aside(2))[1:], [[6] + row("twotwo"), [0]])
        self.assertEqual(ask(run(TEXTS), aside(2, 7), aside(2))[1:], [[6] + row("twotwo"), [0]])
        self.assertEqual(ask(run(TEXTS), aside(2, 5), aside(2))[1:], [[5] + row("twotw"), [1] + row("o")])

    def test_others_are_refused(self):
        for k in (0, 10, -1, -9, 11, 256, 257, 2147483647, -2147483648):
            found = ask(run(TEXTS), aside(k, 3), aside(1), aside(2), aside(9), aside(k, 0))
            self.assertEqual(found[1], [-2])
            self.assertEqual(found[2:], [[3] + row("one"), [6] + row("twotwo"), [4] + row("nine"), [-2]])

    def test_refusal_leaves_where_writing_goes(self):
        found = ask(run("divert(3)a"), aside(0), aside(-1), run("b"), aside(3))
        self.assertEqual(found[1:], [[-2], [-2], [0, 0, 1], [2] + row("ab")])

    def test_of_the_text_that_is_written_to(self):
        found = ask(run("divert(3)abc"), aside(3, 2), run("d`'divnum"), aside(3))
        self.assertEqual(found[1:], [[2] + row("ab"), [0, 0, 4], [3] + row("cd3")])

    def test_all_bytes(self):
        every = "".join(chr(byte) for byte in range(256) if chr(byte) not in "`'")
        self.assertEqual(ask(run("divert(4)`" + every + "'"), aside(4))[1], [254] + row(every))


if __name__ == "__main__":
    unittest.main()
