"""What is built in: each takes the run and its arguments, and gives back its result."""

from textmill.filling import Quotes, first_quotes, quoted_with_commas
from textmill.letters import changed_letters
from textmill.names import Meaning
from textmill.reckon import worked_out
from textmill.signs import FIRST_CLOSING, place_of_row
from textmill.whole import decimal, go_round, number_of


def argument(arguments, place):
    return arguments[place] if place < len(arguments) else []


def define(run, arguments):
    name = tuple(argument(arguments, 0))
    if name != ():
        run.system.names.define(name, Meaning("", argument(arguments, 1)))
    return []


def pushdef(run, arguments):
    name = tuple(argument(arguments, 0))
    if name != ():
        run.system.names.push(name, Meaning("", argument(arguments, 1)))
    return []


def popdef(run, arguments):
    for name in arguments:
        run.system.names.drop_latest(tuple(name))
    return []


def undefine(run, arguments):
    for name in arguments:
        run.system.names.drop_all(tuple(name))
    return []


def meaning_of(run, arguments):
    return run.system.names.latest(tuple(argument(arguments, 0)))


def defn(run, arguments):
    meaning = meaning_of(run, arguments)
    if meaning is None or meaning.word != "":
        return []
    return run.system.quotes.put_round(meaning.text)


def ifdef(run, arguments):
    return argument(arguments, 2 if meaning_of(run, arguments) is None else 1)


def ifelse(run, arguments):
    first = 0
    while len(arguments) - first >= 3:
        if arguments[first] == arguments[first + 1]:
            return arguments[first + 2]
        if len(arguments) - first == 4:
            return arguments[first + 3]
        first += 3
    return []


def shift(run, arguments):
    return quoted_with_commas(arguments[1:], run.system.quotes, run.source.place)


def incr(run, arguments):
    return decimal(go_round(number_of(argument(arguments, 0)) + 1))


def decr(run, arguments):
    return decimal(go_round(number_of(argument(arguments, 0)) - 1))


def length(run, arguments):
    return decimal(len(argument(arguments, 0)))


def index(run, arguments):
    return decimal(place_of_row(argument(arguments, 0), argument(arguments, 1)))


def substr(run, arguments):
    text = argument(arguments, 0)
    start = number_of(argument(arguments, 1))
    size = number_of(arguments[2]) if len(arguments) > 2 else len(text)
    if start < 0 or size < 0:
        return []
    return text[start:start + size]


def translit(run, arguments):
    return changed_letters(argument(arguments, 0), argument(arguments, 1), argument(arguments, 2))


def evaluate(run, arguments):
    return decimal(worked_out(argument(arguments, 0)))


def dnl(run, arguments):
    run.source.read_line()
    return []


def changequote(run, arguments):
    opening = argument(arguments, 0)
    closing = argument(arguments, 1)
    if closing != []:
        run.system.quotes = Quotes(opening, closing)
    elif opening != []:
        run.system.quotes = Quotes(opening, [FIRST_CLOSING])
    else:
        run.system.quotes = first_quotes()
    return []


def divert(run, arguments):
    run.system.write_to(number_of(argument(arguments, 0)))
    return []


def divnum(run, arguments):
    return decimal(run.system.target)


# All numbers are asked for before anything is written, as an error leaves all as it was.
def undivert(run, arguments):
    if arguments == [[]]:
        run.give_back(list(range(1, 10)))
    else:
        run.give_back([number_of(text) for text in arguments])
    return []


BUILT_IN = {
    "define": define,
    "pushdef": pushdef,
    "popdef": popdef,
    "undefine": undefine,
    "defn": defn,
    "ifdef": ifdef,
    "ifelse": ifelse,
    "shift": shift,
    "incr": incr,
    "decr": decr,
    "len": length,
    "index": index,
    "substr": substr,
    "translit": translit,
    "eval": evaluate,
    "dnl": dnl,
    "changequote": changequote,
    "divert": divert,
    "divnum": divnum,
    "undivert": undivert,
}
# Those that are called without a bracket, too.
WITHOUT_BRACKET = ("dnl", "divnum")
