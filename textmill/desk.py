"""One list of calls on one system, and what they answer."""

from textmill.run import run_text
from textmill.system import System

# The numbers of the calls.
OPEN_CALL = 0
RUN_CALL = 1


def answers(calls):
    told = []
    system = System()
    place = 0
    while place < len(calls):
        if calls[place] == OPEN_CALL:
            system = System()
            answer = [0]
            place += 1
        elif calls[place] == RUN_CALL:
            behind = place + 4 + calls[place + 3]
            answer = run_text(system, calls[place + 1], calls[place + 2], calls[place + 4:behind])
            place = behind
        else:
            answer = system.aside(calls[place + 1], calls[place + 2])
            place += 3
        told.append(len(answer))
        told.extend(answer)
    return told
