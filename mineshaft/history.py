"""The one shaft of a list of calls, and the changes that can be taken back or done again."""

from mineshaft.changes import STRONGEST_ROPE
from mineshaft.refusals import MISSING, WRONG
from mineshaft.state import Shaft, copy_of_shaft

MOST_ROOM = 8
MOST_SPEED = 1000
MOST_TAKEN_BACK = 30


class History:
    def __init__(self):
        self.shaft = None
        # Shafts as they were ahead of each change, the oldest first. None of them is ever
        # changed, so they are put back as they are, without a copy.
        self.past = []
        # Shafts as they were ahead of each taking back, the oldest first.
        self.future = []


def sh_start(history, room, rope, speed):
    if room < 1 or room > MOST_ROOM or rope > STRONGEST_ROPE or speed < 1 or speed > MOST_SPEED:
        return WRONG
    history.shaft = Shaft(room, rope, speed)
    history.past = []
    history.future = []
    return 0


def carry_out(call, shaft, numbers):
    if len(numbers) == 0:
        return call(shaft)
    if len(numbers) == 1:
        return call(shaft, numbers[0])
    if len(numbers) == 2:
        return call(shaft, numbers[0], numbers[1])
    return call(shaft, numbers[0], numbers[1], numbers[2])


def make_change(history, change, numbers):
    # The change is made on a copy: if it's refused, all is as it was.
    trial = copy_of_shaft(history.shaft)
    answer = carry_out(change, trial, numbers)
    if answer >= 0:
        history.past.append(history.shaft)
        history.past = history.past[-MOST_TAKEN_BACK:]
        history.future = []
        history.shaft = trial
    return answer


def ask(history, question, numbers):
    return carry_out(question, history.shaft, numbers)


def go_over(history, source, target):
    """Makes the newest shaft of source the one there is, and keeps that one in target."""
    if len(source) == 0:
        return MISSING
    target.append(history.shaft)
    history.shaft = source.pop()
    return len(source)


def sh_back(history):
    return go_over(history, history.past, history.future)


def sh_again(history):
    return go_over(history, history.future, history.past)


def sh_state(history):
    shaft = history.shaft
    return [shaft.minute, len(shaft.levels) - 1, len(shaft.persons), len(shaft.locks),
            len(history.past), len(history.future)]
