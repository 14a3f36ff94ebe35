"""Promise 2, Results: eval."""

import unittest

from tests.helper import error, full, out


# From the weakest on.
STRENGTHS = (("||",), ("&&",), ("|",), ("^",), ("&",), ("==", "!="), ("<=", ">=", "<", ">"), ("<<", ">>"),
             ("+", "-"), ("*", "/", "%"))
SIGNS = {sign: strength for strength, signs in enumerate(STRENGTHS) for sign in signs}


def value(expression):
    return out("eval(`" + expression + "')")


class Eval(unittest.TestCase):
    def check(self, table):
        for expression, wanted in table.items():
            self.assertEqual(value(expression), str(wanted), expression)

    def test_each_sign(self):
        self.check({"7||0": 1, "0||0": 0, "0||-3": 1, "7&&2": 1, "7&&0": 0, "0&&7": 0,
                    "12|10": 14, "12^10": 6, "12&10": 8, "5==5": 1, "5==6": 0, "5!=5": 0, "5!=6": 1,
                    "5<=5": 1, "6<=5": 0, "5>=5": 1, "5>=6": 0, "5<6": 1, "5<5": 0, "6>5": 1, "5>5": 0,
                    "3<<2": 12, "13>>2": 3, "5+6": 11, "5-6": -1, "5*6": 30, "17/5": 3, "17%5": 2})

    def test_strength_next_to_the_one_above(self):
        self.check({"1||0&&0": 1, "0&&0||1": 1, "0&&1|1": 0, "1|1&&0": 0, "1|3^3": 1, "2^2|2": 2,
                    "1^3&2": 3, "2&3^1": 3, "2&2==2": 0, "1==1&3": 1, "2==1<3": 0, "0==2>=3": 1,
                    "3<1<<2": 1, "1<<2>3": 1, "1<<1+1": 4, "1+1<<1": 4, "2+3*4": 14, "2*3+4": 10,
                    "8-6/2": 5, "8-6%4": 6, "-2+5": 3})

    def test_strength_all_through(self):
        self.check({"1||1&&0|1^1&1==1<1<<1+1*0": 1, "0*5+1<<2<5==1&3^2|8&&1||0": 1, "2+3*4-5%3<<1": 24})

    def test_same_strength_from_the_left(self):
        self.check({"10-4-3": 3, "100/10/5": 2, "100/10*5": 50, "100%7*2": 4, "2*7%4": 2, "1<<2<<3": 32,
                    "64>>2>>1": 8, "64>>2<<1": 32, "3>2>1": 0, "1<2<=1": 1, "3==3==1": 1, "2==2!=1": 0,
                    "1-2+3": 2, "5!=4==1": 1})

    def test_strength_of_each_two(self):
        triples = [(left, middle, right) for left in (1, 2, 7) for middle in (1, 2, 5) for right in (1, 3)]
        for first in SIGNS:
            for second in SIGNS:
                bracketed = "({0}{1}{2}){3}{4}" if SIGNS[first] >= SIGNS[second] else "{0}{1}({2}{3}{4})"
                self.assertEqual(self.values("{0}{1}{2}{3}{4}", first, second, triples),
                                 self.values(bracketed, first, second, triples), (first, second))

    def values(self, form, first, second, triples):
        parts = [form.format(left, first, middle, second, right) for left, middle, right in triples]
        return out(" ".join("eval(`" + part + "')" for part in parts))

    def test_brackets(self):
        self.check({"(2+3)*4": 20, "((7))": 7, "-(2+3)": -5, "2*(3-(4-5))": 8, "!(1&&0)": 1, "~(0)": -1,
                    "( 1 ) + ( 2 )": 3})

    def test_signs_before(self):
        self.check({"-5": -5, "+5": 5, "!5": 0, "!0": 1, "~5": -6, "--5": 5, "-+-5": 5, "!!7": 1, "~~7": 7,
                    "-!0": -1, "!-1": 0, "~-1": 0, "2--1": 3, "2-+1": 1, "2*-3": -6, "-2*-3": 6, "!1==0": 1,
                    "-1>>1": -1, "~1&3": 2, "- - ! ~ 0": 0, "1!=!0": 0, "1<-1": 0, "1&~1": 0, "-7%3": -1})

    def test_blanks_between(self):
        self.check({" 1 + 2 ": 3, "\t1\n+\x0b2\x0c*\r3": 7, "( 1 )": 1, "1  <<  2": 4, "- 5": -5})

    def test_numbers_go_round(self):
        self.check({"9223372036854775807+1": -2 ** 63, "-9223372036854775808-1": 2 ** 63 - 1,
                    "9223372036854775808": -2 ** 63, "18446744073709551616": 0, "18446744073709551615": -1,
                    "9223372036854775807*2": -2, "4294967296*4294967296": 0, "--9223372036854775808": -2 ** 63,
                    "9223372036854775807*9223372036854775807": 1, "~9223372036854775807": -2 ** 63,
                    "1" + "0" * 400: 0, "007": 7})

    def test_quotients_and_rests_towards_0(self):
        self.check({"7/2": 3, "-7/2": -3, "7/-2": -3, "-7/-2": 3, "7%2": 1, "-7%2": -1, "7%-2": 1, "-7%-2": -1,
                    "1/2": 0, "-1/2": 0, "-1/1": -1, "1/-1": -1, "-1/-1": 1, "0/5": 0, "0%5": 0,
                    "-9223372036854775808/-1": -2 ** 63, "-9223372036854775808%-1": 0,
                    "9223372036854775807/-1": -(2 ** 63 - 1), "-9223372036854775808/3": -3074457345618258602})

    def test_by_0(self):
        for expression in ("1/0", "1%0", "0/0", "0%0", "1/(2-2)", "0&&1/0", "1||1/0", "1||1%0", "1/18446744073709551616"):
            self.assertEqual(error("eval(`" + expression + "')"), 2, expression)

    def test_shifts_by_six_bits(self):
        self.check({"1<<63": -2 ** 63, "1<<64": 1, "1<<65": 2, "1<<-1": -2 ** 63, "3<<63": -2 ** 63, "1<<0": 1,
                    "-1>>63": -1, "-8>>1": -4, "-7>>1": -4, "8>>64": 8, "8>>65": 4, "-9223372036854775808>>63": -1,
                    "9223372036854775807>>62": 1, "4>>-63": 2, "-1<<63": -2 ** 63})

    def test_no_expressions(self):
        for expression in ("", " ", "a", "1a", "1 2", "1+", "*1", "1**2", "(1", "1)", "()", "(", ")", "1=1", "1 = = 1",
                           "1< <2", "1! =2", "1&&&1", "1|||1", "1<<<1", "1<==1", "1!1", "1~1", "!", "-", "1-", "1(2)",
                           "(1)(2)", "(1)2", "1,2", "0x1", "1.5", "1?2:3", "1;", "=1", "!=1", "1===1", "1>>=1", ")1(",
                           "(1+)", "(+)", "\xb2", "\0", "1\0", "1/", "&1", "$1"):
            self.assertEqual(error("eval(`" + expression + "')"), 2, expression)

    def test_no_argument_and_more(self):
        self.assertEqual(error("eval()"), 2)
        self.assertEqual(out("eval(1+1,x,y)"), "2")
        self.assertEqual(out("define(`n',`3')eval(n*n)"), "9")
        self.assertEqual(full("eval(1+1)"), (0, "2", 6))

    def test_deep_and_long(self):
        deep = 12000
        self.assertEqual(value("(" * deep + "1" + ")" * deep), "1")
        self.assertEqual(value("-" * 25001 + "1"), "-1")
        self.assertEqual(value("-(" * 9000 + "1" + ")" * 9000), "1")
        self.assertEqual(value("1" + "+1" * 12000), "12001")
        self.assertEqual(value("2-(" * 6000 + "1" + ")" * 6000), "1")


if __name__ == "__main__":
    unittest.main()
