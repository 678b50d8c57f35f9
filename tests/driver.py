"""What the tests share: calls by name in, their answers out."""

from mineshaft.shaft import answers

NAMES = ("start", "level", "hire", "board", "leave", "wind", "wait", "fan",
         "mine", "load", "dump", "rope", "lock", "open", "shut", "where", "below", "who", "cage", "need", "next",
         "gas", "foul", "long", "may", "ore", "doors", "back", "again", "state")
CHANGES = NAMES[1:15]
# The calls with out, and how many numbers it has.
OUT = {"where": 1, "below": 1, "who": 1, "cage": 3, "need": 3, "next": 1, "gas": 1, "foul": 1, "long": 1,
       "ore": 3, "doors": 2, "state": 5}

# The calls that the kinds of sh_next stand for.
STEPS = ("board", "leave", "wind", "dump")

BIGGEST = 4294967295
STRONGEST = 2000000000


def written(calls):
    """The calls, each a tuple of its name and its numbers, as one list of whole numbers."""
    numbers = []
    for call in calls:
        numbers.append(NAMES.index(call[0]))
        numbers.extend(call[1:])
    return numbers


def told(*calls):
    """The answer to each call, as a list: the number, and behind it those of out."""
    numbers = answers(written(calls))
    assert all(type(number) is int for number in numbers), numbers
    found = []
    while numbers:
        found.append(numbers[1:1 + numbers[0]])
        numbers = numbers[1 + numbers[0]:]
    assert len(found) == len(calls), found
    for call, answer in zip(calls, found):
        expected = 0 if answer[0] < 0 else OUT.get(call[0], 0)
        assert len(answer) == 1 + expected, (call, answer)
    return found


def run(*calls):
    """The number that each call answers, without those of out."""
    return [answer[0] for answer in told(*calls)]


def asked(*calls):
    """The whole answer to the last of the calls."""
    return told(*calls)[-1]


def last(*calls):
    return run(*calls)[-1]


def worn_by(*calls):
    """How much the rope has worn after calls that bring all up."""
    return last(*calls, ("rope", 0))


def questions(persons=0, levels=0):
    """Every question there is about a shaft with so many persons and levels, of those that aren't there too."""
    asking = [("below",), ("cage",), ("need",), ("next",), ("foul",), ("ore",), ("doors",), ("state",)]
    asking += [("where", p) for p in range(persons + 1)]
    asking += [(name, l) for name in ("who", "gas", "may") for l in range(levels + 2)]
    return asking + [("long", n) for n in (0, 1, 5, 20, BIGGEST)]


def told_step(answer):
    """The call that an answer of sh_next tells; None if it tells that there's none."""
    if answer == [-6]:
        return None
    kind, number = answer
    return (STEPS[kind],) if kind == 3 else (STEPS[kind], number)


def wait_till(minute):
    """Waits that bring the shaft from minute 0 to this one."""
    waits = [("wait", 1440)] * (minute // 1440)
    if minute % 1440:
        waits.append(("wait", minute % 1440))
    return waits
