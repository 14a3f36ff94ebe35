"""What names stand for."""

from textmill.faults import TooMuch
from textmill.signs import BOUND

# What each thing that is stood for counts beyond its bytes.
EXTRA = 16


# What a name stands for: a text, or what is built in, by its word (which is empty for a text).
class Meaning:
    def __init__(self, word, text):
        self.word = word
        self.text = text


def weight(name, meaning):
    return len(name) + len(meaning.text) + EXTRA


class Names:
    def __init__(self):
        # For each name what it stands for, the latest last; no list is empty.
        self.meanings = {}
        self.size = 0

    def latest(self, name):
        stack = self.meanings.get(name)
        return None if stack is None else stack[-1]

    def need_room(self, more):
        if self.size + more > BOUND:
            raise TooMuch()

    def define(self, name, meaning):
        more = weight(name, meaning)
        stack = self.meanings.get(name)
        if stack is None:
            self.push(name, meaning)
            return
        more -= weight(name, stack[-1])
        self.need_room(more)
        stack[-1] = meaning
        self.size += more

    def push(self, name, meaning):
        more = weight(name, meaning)
        self.need_room(more)
        self.meanings.setdefault(name, []).append(meaning)
        self.size += more

    def drop_latest(self, name):
        stack = self.meanings.get(name)
        if stack is None:
            return
        self.size -= weight(name, stack.pop())
        if stack == []:
            self.meanings.pop(name)

    def drop_all(self, name):
        while self.latest(name) is not None:
            self.drop_latest(name)
