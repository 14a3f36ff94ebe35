"""Calls written as texts, and their answers taken apart."""

from textmill.desk import answers

OPEN = [0]
STEPS = 1000000
MOST = 65536


def row(text):
    return list(text.encode("latin-1"))


def run(text, steps=STEPS, most=MOST):
    return [1, steps, most, len(text)] + row(text)


def aside(k, most=MOST):
    return [2, k, most]


def apart(told):
    """The answers, one list for each call."""
    found = []
    place = 0
    while place < len(told):
        behind = place + 1 + told[place]
        found.append(told[place + 1:behind])
        place = behind
    return found


def ask(*calls):
    """The answers to these calls behind an open."""
    return apart(answers(OPEN + [number for call in calls for number in call]))[1:]


def told(answer):
    """A run's answer: its error, what was written out as a text, its steps."""
    assert answer[1] == len(answer) - 3, answer
    return answer[0], bytes(answer[3:]).decode("latin-1"), answer[2]


def runs(*texts):
    """What these texts come to, run one behind another on one system."""
    return [told(answer) for answer in ask(*[run(text) for text in texts])]


def full(text, steps=STEPS, most=MOST):
    """Error, what was written out, steps of one text on a new system."""
    return told(ask(run(text, steps, most))[0])


def out(text):
    """What one text that comes to no error writes out on a new system."""
    error, written, _ = full(text)
    assert error == 0, (error, written)
    return written


def error(text):
    return full(text)[0]
