"""What stays from run to run: names, quotes, texts put by, and where writing goes."""

from textmill.faults import TooMuch
from textmill.filling import first_quotes
from textmill.names import Meaning, Names
from textmill.results import BUILT_IN
from textmill.signs import BOUND, row_of

# Where writing goes: out, nowhere, or to a text put by, by its number up to the last one.
OUT = 0
NOWHERE = -1
LAST_TEXT = 9
REFUSED = -2


def built_in_names():
    names = Names()
    for word in BUILT_IN:
        names.push(tuple(row_of(word)), Meaning(word, []))
    return names


def is_put_by(number):
    return 1 <= number <= LAST_TEXT


class System:
    def __init__(self):
        self.names = built_in_names()
        self.quotes = first_quotes()
        self.target = OUT
        # The texts put by, at their numbers; the one at 0 stays empty.
        self.texts = [[] for number in range(LAST_TEXT + 1)]
        self.size_put_by = 0

    def write_to(self, number):
        self.target = number if number == OUT or is_put_by(number) else NOWHERE

    def put_by(self, piece):
        if self.size_put_by + len(piece) > BOUND:
            raise TooMuch()
        self.texts[self.target].extend(piece)
        self.size_put_by += len(piece)

    # The numbers of those texts that can be given back, each once, as its text is empty then.
    def to_give_back(self, numbers):
        chosen = {}
        for number in numbers:
            if is_put_by(number) and number != self.target:
                chosen[number] = True
        return list(chosen)

    def take_away(self, number, most):
        taken = self.texts[number][:most]
        self.texts[number] = self.texts[number][most:]
        self.size_put_by -= len(taken)
        return taken

    def aside(self, number, most):
        if not is_put_by(number):
            return [REFUSED]
        taken = self.take_away(number, most)
        return [len(taken)] + taken
