"""One text's way through the system, token by token."""

from textmill.faults import EndsWithin, NoStepLeft, NotReckoned, TooMuch
from textmill.filling import fill_in
from textmill.results import BUILT_IN, WITHOUT_BRACKET
from textmill.signs import BLANKS, BOUND, COMMA, HASH, LEFT_BRACKET, RIGHT_BRACKET
from textmill.source import Source
from textmill.system import NOWHERE, OUT

MOST_CALLS = 256
MOST_ARGUMENTS = 1025


# A name's call, with what the name stood for when it began.
class Call:
    def __init__(self, name, meaning, arguments):
        self.name = name
        self.meaning = meaning
        self.arguments = arguments
        # If something was taken for the latest argument, be it empty.
        self.begun = False
        self.depth = 0
        self.size = len(name) + len(meaning.text)


class Run:
    def __init__(self, system, most, text):
        self.system = system
        self.source = Source(text)
        self.most = most
        self.written = []
        # The calls that are being read, the innermost last, and how many bytes are in them.
        self.calls = []
        self.held = 0
        self.used = 0

    def read_all(self, steps):
        source = self.source
        while source.has_more():
            if self.used == steps:
                raise NoStepLeft()
            self.used += 1
            self.read_token()
        if self.calls != []:
            raise EndsWithin()

    def error_of_reading(self, steps):
        try:
            self.read_all(steps)
        except EndsWithin:
            return 1
        except NotReckoned:
            return 2
        except NoStepLeft:
            return 3
        except TooMuch:
            return 4
        return 0

    def read_token(self):
        source = self.source
        byte = source.row[source.place]
        if source.begins_with(self.system.quotes.opening):
            self.take(source.read_quoted(self.system.quotes))
        elif byte == HASH:
            self.take(source.read_line())
        elif source.starts_name(byte):
            self.read_name_token()
        else:
            source.place += 1
            self.read_byte(byte)

    def read_name_token(self):
        source = self.source
        name = source.read_name()
        meaning = self.system.names.latest(name)
        if meaning is None:
            self.take(list(name))
        elif source.row[source.place] == LEFT_BRACKET:
            source.place += 1
            self.begin_call(Call(name, meaning, [[]]))
        elif meaning.word == "" or meaning.word in WITHOUT_BRACKET:
            self.put_result(Call(name, meaning, []))
        else:
            self.take(list(name))

    def read_byte(self, byte):
        if self.calls == []:
            self.write([byte])
            return
        call = self.calls[-1]
        if call.depth == 0 and byte == RIGHT_BRACKET:
            self.end_call()
        elif call.depth == 0 and byte == COMMA:
            self.end_argument(call)
        elif call.begun or byte not in BLANKS:
            if byte == LEFT_BRACKET:
                call.depth += 1
            elif byte == RIGHT_BRACKET:
                call.depth -= 1
            self.take([byte])

    def hold(self, more):
        if self.held + more > BOUND:
            raise TooMuch()
        self.held += more

    def begin_call(self, call):
        if len(self.calls) == MOST_CALLS:
            raise TooMuch()
        self.hold(call.size)
        self.calls.append(call)

    def end_argument(self, call):
        if len(call.arguments) == MOST_ARGUMENTS:
            raise TooMuch()
        call.arguments.append([])
        call.begun = False

    def end_call(self):
        call = self.calls.pop()
        self.held -= call.size
        self.put_result(call)

    def put_result(self, call):
        if call.meaning.word == "":
            result = fill_in(call, self.system.quotes, self.source.place)
        else:
            result = BUILT_IN[call.meaning.word](self, call.arguments)
        self.source.put_before(result)

    def take(self, piece):
        if self.calls == []:
            self.write(piece)
            return
        call = self.calls[-1]
        self.hold(len(piece))
        call.size += len(piece)
        call.arguments[-1].extend(piece)
        call.begun = True

    def need_most(self, more):
        if len(self.written) + more > self.most:
            raise TooMuch()

    def write(self, piece):
        if self.system.target == OUT:
            self.need_most(len(piece))
            self.written.extend(piece)
        elif self.system.target != NOWHERE:
            self.system.put_by(piece)

    # The bound is asked before the texts are emptied; put by elsewhere they count no more than before.
    def give_back(self, numbers):
        chosen = self.system.to_give_back(numbers)
        if self.system.target == OUT:
            self.need_most(sum([len(self.system.texts[number]) for number in chosen]))
        for number in chosen:
            self.write(self.system.take_away(number, BOUND))


def run_text(system, steps, most, text):
    run = Run(system, most, text)
    error = run.error_of_reading(steps)
    return [error, len(run.written), run.used] + run.written
