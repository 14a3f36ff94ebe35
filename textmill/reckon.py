"""Expressions over whole numbers, worked out without recursion."""

from textmill.faults import NotReckoned
from textmill.signs import LEFT_BRACKET, RIGHT_BRACKET
from textmill.whole import go_round, is_digit, skip_blanks, skip_digits, value_of_digits


def truth(said):
    return 1 if said else 0


def either(left, right):
    return truth(left != 0 or right != 0)


def both(left, right):
    return truth(left != 0 and right != 0)


def bits_of_either(left, right):
    return left | right


def bits_of_one(left, right):
    return left ^ right


def bits_of_both(left, right):
    return left & right


def same(left, right):
    return truth(left == right)


def other(left, right):
    return truth(left != right)


def at_most(left, right):
    return truth(left <= right)


def at_least(left, right):
    return truth(left >= right)


def below(left, right):
    return truth(left < right)


def above(left, right):
    return truth(left > right)


def shifted_up(left, right):
    return left << (right & 63)


def shifted_down(left, right):
    return left >> (right & 63)


def added(left, right):
    return left + right


def taken_away(left, right):
    return left - right


def multiplied(left, right):
    return left * right


# Python's own quotient goes down, this one towards 0.
def quotient(left, right):
    if right == 0:
        raise NotReckoned()
    size = abs(left) // abs(right)
    return size if (left < 0) == (right < 0) else -size


def rest(left, right):
    return left - right * quotient(left, right)


def negated(number):
    return -number


def unchanged(number):
    return number


def denied(number):
    return truth(number == 0)


def turned(number):
    return ~number


# The bytes of each sign between two numbers: how strongly it binds, and what it does.
BETWEEN = {
    (124, 124): (1, either),
    (38, 38): (2, both),
    (124,): (3, bits_of_either),
    (94,): (4, bits_of_one),
    (38,): (5, bits_of_both),
    (61, 61): (6, same),
    (33, 61): (6, other),
    (60, 61): (7, at_most),
    (62, 61): (7, at_least),
    (60,): (7, below),
    (62,): (7, above),
    (60, 60): (8, shifted_up),
    (62, 62): (8, shifted_down),
    (43,): (9, added),
    (45,): (9, taken_away),
    (42,): (10, multiplied),
    (47,): (10, quotient),
    (37,): (10, rest),
}
# The signs before a number, which bind more strongly than all between.
BEFORE = {
    45: negated,
    43: unchanged,
    33: denied,
    126: turned,
}
STRENGTH_BEFORE = 11
# A bracket that is not yet closed binds less than all, so that nothing is worked out across it.
STRENGTH_OF_BRACKET = 0


class Reckoning:
    def __init__(self, text):
        self.text = text
        self.place = 0
        self.numbers = []
        # The signs that are not yet worked out: (strength, what it does).
        self.waiting = []
        self.wants_number = True

    def work_out(self):
        self.place = skip_blanks(self.text, 0)
        while self.place < len(self.text):
            if self.wants_number:
                self.read_number_side()
            else:
                self.read_sign_side()
            self.place = skip_blanks(self.text, self.place)
        if self.wants_number:
            raise NotReckoned()
        self.settle(STRENGTH_OF_BRACKET + 1)
        if self.waiting != []:
            raise NotReckoned()
        return self.numbers[-1]

    # Where a number is due: a number, a bracket that opens, or a sign before them.
    def read_number_side(self):
        byte = self.text[self.place]
        if is_digit(byte):
            behind = skip_digits(self.text, self.place)
            self.numbers.append(go_round(value_of_digits(self.text[self.place:behind])))
            self.place = behind
            self.end_number()
            return
        if byte == LEFT_BRACKET:
            self.waiting.append((STRENGTH_OF_BRACKET, unchanged))
        elif byte in BEFORE:
            self.waiting.append((STRENGTH_BEFORE, BEFORE[byte]))
        else:
            raise NotReckoned()
        self.place += 1

    # Behind a number: a bracket that closes, or a sign between two numbers.
    def read_sign_side(self):
        if self.text[self.place] == RIGHT_BRACKET:
            self.settle(STRENGTH_OF_BRACKET + 1)
            if self.waiting == []:
                raise NotReckoned()
            self.waiting.pop()
            self.place += 1
            self.end_number()
            return
        sign = tuple(self.text[self.place:self.place + 2])
        if sign not in BETWEEN:
            sign = sign[:1]
        if sign not in BETWEEN:
            raise NotReckoned()
        self.settle(BETWEEN[sign][0])
        self.waiting.append(BETWEEN[sign])
        self.place += len(sign)
        self.wants_number = True

    def end_number(self):
        while self.waiting != [] and self.waiting[-1][0] == STRENGTH_BEFORE:
            work = self.waiting.pop()[1]
            self.numbers.append(go_round(work(self.numbers.pop())))
        self.wants_number = False

    # Works out the signs that bind at least as strongly, the latest first: so all go from the left.
    def settle(self, strength):
        while self.waiting != [] and self.waiting[-1][0] >= strength:
            work = self.waiting.pop()[1]
            right = self.numbers.pop()
            left = self.numbers.pop()
            self.numbers.append(go_round(work(left, right)))


def worked_out(text):
    return Reckoning(text).work_out()
