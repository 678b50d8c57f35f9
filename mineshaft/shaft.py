"""The interface: a list of calls in, a list of their answers out."""

from mineshaft.changes import CHANGES
from mineshaft.history import History, ask, make_change, sh_again, sh_back, sh_start, sh_state
from mineshaft.questions import QUESTIONS

# How many numbers stand behind the number of each call.
NUMBERS_OF_CALL = (3, 3, 0, 1, 1, 1, 1, 2, 2, 1, 0, 1, 0, 2, 2, 1, 0, 1, 0, 0, 0, 1, 0, 1, 1, 0, 0, 0, 0, 0)

START = 0
FIRST_CHANGE = 1
FIRST_QUESTION = 15
BACK = 27
AGAIN = 28


def answer_to(history, call, numbers):
    """The number that's answered, and behind it the numbers of out."""
    if call == START:
        return [sh_start(history, numbers[0], numbers[1], numbers[2])]
    if call < FIRST_QUESTION:
        return [make_change(history, CHANGES[call - FIRST_CHANGE], numbers)]
    if call < BACK:
        return ask(history, QUESTIONS[call - FIRST_QUESTION], numbers)
    if call == BACK:
        return [sh_back(history)]
    if call == AGAIN:
        return [sh_again(history)]
    return sh_state(history)


def answers(calls):
    history = History()
    told = []
    at = 0
    while at < len(calls):
        behind = at + 1 + NUMBERS_OF_CALL[calls[at]]
        answer = answer_to(history, calls[at], calls[at + 1:behind])
        told.append(len(answer))
        told.extend(answer)
        at = behind
    return told
