"""The interface: a list of calls in, a list of their answers out."""

from mineshaft.changes import CHANGES
from mineshaft.history import History, make_change, sh_start

# How many numbers stand behind the number of each call.
NUMBERS_OF_CALL = (3, 3, 0, 1, 1, 1, 1, 2, 2, 1, 0, 1, 0, 2, 2)


def answer_to(history, call, numbers):
    if call == 0:
        return [sh_start(history, numbers[0], numbers[1], numbers[2])]
    return [make_change(history, CHANGES[call - 1], numbers)]


def answers(calls):
    history = History()
    told = []
    at = 0
    while at < len(calls):
        behind = at + 1 + NUMBERS_OF_CALL[calls[at]]
        answer = answer_to(history, calls[at], calls[at + 1:behind])
        told.append(len(answer))
        told.extend(answer)
        at = behind
    return told
