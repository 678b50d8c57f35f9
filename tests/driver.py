"""What the tests share: calls by name in, their answers out, one number a call."""

from mineshaft.shaft import answers

NAMES = ("start", "level", "hire", "board", "leave", "wind", "wait", "fan",
         "mine", "load", "dump", "rope", "lock", "open", "shut")

BIGGEST = 4294967295
STRONGEST = 2000000000


def written(calls):
    """The calls, each a tuple of its name and its numbers, as one list of whole numbers."""
    numbers = []
    for call in calls:
        numbers.append(NAMES.index(call[0]))
        numbers.extend(call[1:])
    return numbers


def run(*calls):
    told = answers(written(calls))
    assert len(told) == 2 * len(calls), told
    assert told[::2] == [1] * len(calls), told
    assert all(type(number) is int for number in told), told
    return told[1::2]


def last(*calls):
    return run(*calls)[-1]


def worn_by(*calls):
    """How much the rope has worn after calls that bring all up."""
    return last(*calls, ("rope", 0))


def wait_till(minute):
    """Waits that bring the shaft from minute 0 to this one."""
    waits = [("wait", 1440)] * (minute // 1440)
    if minute % 1440:
        waits.append(("wait", minute % 1440))
    return waits
