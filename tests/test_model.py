"""Many calls at random against a second, slow telling of the document, and what holds in the end."""

import itertools
import random
import unittest

from driver import STRONGEST, run
from mineshaft.rescue import groups_to_fetch
from mineshaft.state import Person, Shaft

CAGE = "cage"


class Model:
    """A shaft as the document tells it, by steps as small as they go, without taking back."""

    def __init__(self, room, rope, speed):
        self.room, self.rope, self.speed = room, rope, speed
        self.worn = self.minute = self.tub = self.bin = self.mined = self.cage = 0
        self.depth, self.rate, self.cleared, self.fan_on, self.gas, self.heap = [0], [0], [0], [0], [0], [0]
        self.at = []
        self.doors = []

    def tick(self, minutes):
        for passed in range(minutes):
            self.minute += 1
            for l in range(1, len(self.depth)):
                self.gas[l] = max(0, self.gas[l] + self.rate[l] - (self.cleared[l] if self.fan_on[l] else 0))

    def hanging(self):
        return 1000 + 80 * self.at.count(CAGE) + self.tub

    def parted(self, cage):
        """Depths of those whom the cage takes from there, and of those who stay, the deepest first."""
        below = sorted((self.depth[l] for l in self.at if l not in (0, CAGE)), reverse=True)
        taken = []
        if cage > 0:
            for depth in list(below):
                if depth <= self.depth[cage] and self.at.count(CAGE) + len(taken) < self.room:
                    taken.append(depth)
                    below.remove(depth)
        return taken, below

    def need(self, cage):
        taken, staying = self.parted(cage)
        total = self.depth[cage] * (self.hanging() + 80 * len(taken))
        while staying:
            group = [staying.pop(0) for place in range(min(self.room, len(staying)))]
            total += max(group) * (2000 + 80 * len(group))
        return total

    def safe(self):
        return self.worn + self.need(self.cage) <= self.rope

    def next_step(self):
        if self.cage == 0:
            if CAGE in self.at:
                return ("leave", self.at.index(CAGE))
            if self.tub:
                return ("dump",)
            below = [l for l in self.at if l not in (0, CAGE)]
            return ("wind", max(below)) if below else None
        taken = self.parted(self.cage)[0]
        if taken and self.cage in self.at:
            return ("board", self.at.index(self.cage))
        return ("wind", self.depth.index(max(taken)) if taken else 0)

    def call(self, name, *numbers):
        return getattr(self, "do_" + name)(*numbers)

    def do_level(self, depth, rate, clear):
        if not 1 <= depth <= 2000 or rate > 2000 or clear > 5000 or self.depth[-1] >= depth:
            return -22
        if len(self.depth) == 6:
            return -28
        for row, value in ((self.depth, depth), (self.rate, rate), (self.cleared, clear), (self.fan_on, 0),
                           (self.gas, 0), (self.heap, 0)):
            row.append(value)
        return len(self.depth) - 1

    def do_hire(self):
        if len(self.at) == 24:
            return -28
        self.at.append(0)
        return len(self.at) - 1

    def do_board(self, p):
        if p >= len(self.at):
            return -2
        if self.at[p] == CAGE:
            return -17
        if self.at[p] != self.cage:
            return -16
        if self.at.count(CAGE) == self.room:
            return -28
        self.at[p] = CAGE
        return self.at.count(CAGE)

    def do_leave(self, p):
        if p >= len(self.at):
            return -2
        if self.at[p] != CAGE:
            return -16
        if self.gas[self.cage] > 10000:
            return -13
        self.at[p] = self.cage
        if not self.safe():
            self.at[p] = CAGE
            return -62
        return self.at.count(CAGE)

    def do_wind(self, l):
        if l >= len(self.depth):
            return -2
        if l == self.cage:
            return -17
        metres = abs(self.depth[l] - self.depth[self.cage])
        if self.worn + metres * self.hanging() + self.need(l) > self.rope:
            return -62
        minutes = len(range(0, metres, self.speed))
        if self.minute + minutes > 1000000:
            return -75
        self.worn += metres * self.hanging()
        self.cage = l
        self.tick(minutes)
        return minutes

    def do_wait(self, n):
        if n not in range(1, 1441):
            return -22
        if self.minute + n > 999000:
            return -75
        self.tick(n)
        return self.minute

    def do_fan(self, l, on):
        if l not in range(1, len(self.depth)):
            return -2
        if on > 1:
            return -22
        if self.fan_on[l] == on:
            return -17
        self.fan_on[l] = on
        return self.gas[l]

    def do_mine(self, l, kg):
        if l not in range(1, len(self.depth)):
            return -2
        if kg not in range(1, 10001):
            return -22
        if l not in self.at:
            return -6
        self.heap[l] += kg
        self.mined += kg
        return self.heap[l]

    def do_load(self, kg):
        if self.cage == 0:
            return -16
        if kg == 0:
            return -22
        if self.heap[self.cage] < kg:
            return -12
        if self.tub + kg > 3000:
            return -28
        self.tub += kg
        if not self.safe():
            self.tub -= kg
            return -62
        self.heap[self.cage] -= kg
        return self.tub

    def do_dump(self):
        if self.cage:
            return -16
        if not self.tub:
            return -6
        self.bin += self.tub
        self.tub = 0
        return self.bin

    def do_rope(self, n):
        if n > STRONGEST:
            return -22
        if self.cage or set(self.at) - {0, CAGE}:
            return -16
        old, self.worn, self.rope = self.worn, 0, n
        return old

    def do_lock(self):
        if len(self.doors) == 4:
            return -28
        self.doors.append(set())
        return len(self.doors) - 1

    def do_open(self, k, side):
        if k >= len(self.doors):
            return -2
        if side > 1:
            return -22
        if self.doors[k]:
            return -17 if side in self.doors[k] else -16
        self.doors[k].add(side)
        return 0

    def do_shut(self, k, side):
        if k >= len(self.doors):
            return -2
        if side > 1:
            return -22
        if side not in self.doors[k]:
            return -17
        self.doors[k].remove(side)
        return 0


def random_call(dice, model):
    """A call that is often not refused, at a shaft as the model has it."""
    persons, levels = len(model.at), len(model.depth) - 1
    name = dice.choices(
        ("level", "hire", "board", "leave", "wind", "wait", "fan", "mine", "load", "dump", "rope", "lock", "open", "shut"),
        (4, 6, 20, 20, 25, 4, 4, 8, 10, 4, 2, 1, 3, 3))[0]
    numbers = {
        "level": (model.depth[-1] + dice.randint(-1, 60), dice.randint(0, 2001), dice.randint(0, 5001)),
        "board": (dice.randint(0, persons),), "leave": (dice.randint(0, persons),),
        "wind": (dice.randint(0, levels + (dice.random() < 0.1)),), "wait": (dice.choice((0, 1, 2, 3, 40, 1441)),),
        "fan": (dice.randint(0, levels + 1), dice.choice((0, 1, 1, 2))),
        "mine": (dice.randint(0, levels + 1), dice.choice((0, 1, 700, 5000, 10000, 10001))),
        "load": (dice.choice((0, 1, 300, 1500, 3000, 3001)),),
        "rope": (dice.choice((0, 2000000, 20000000, STRONGEST, STRONGEST + 1)),),
        "open": (dice.randint(0, len(model.doors)), dice.choice((0, 0, 1, 1, 2))),
        "shut": (dice.randint(0, len(model.doors)), dice.choice((0, 0, 1, 1, 2))),
    }
    return (name, *numbers.get(name, ()))


def random_line(seed, length):
    """The calls, the model's answers to them, and the model afterwards."""
    dice = random.Random(seed)
    start = ("start", dice.randint(1, 8), dice.choice((0, 300000, 1000000, 3000000, 20000000, STRONGEST)),
             dice.choice((1, 7, 100, 1000)))
    model = Model(*start[1:])
    calls, told = [start], [0]
    for turn in range(length):
        calls.append(random_call(dice, model))
        told.append(model.call(*calls[-1]))
        assert model.safe(), calls
        assert model.tub + model.bin + sum(model.heap) == model.mined, calls
    return calls, told, model


class AgainstTheModel(unittest.TestCase):
    def test_answers_are_alike(self):
        seen = set()
        for seed in range(150):
            calls, told, model = random_line(seed, 250)
            self.assertEqual(run(*calls), told, seed)
            seen.update((call[0], answer) for call, answer in zip(calls, told) if answer < 0)
        # So that the calls drawn do reach what they're meant to reach.
        for reached in (("leave", -13), ("wind", -62), ("load", -62), ("load", -28), ("board", -28), ("rope", -16),
                        ("open", -16), ("mine", -6), ("level", -28)):
            self.assertIn(reached, seen)

    def test_the_steps_told_bring_all_up(self):
        for seed in range(150):
            calls, told, model = random_line(seed, 120)
            step = model.next_step()
            while step is not None:
                calls.append(step)
                told.append(model.call(*step))
                self.assertGreaterEqual(told[-1], 0, (seed, step))
                step = model.next_step()
            self.assertEqual(set(model.at) - {0}, set(), seed)
            self.assertEqual(run(*calls), told, seed)


def partings(members):
    """All ways to part the members into groups."""
    if not members:
        yield []
        return
    first, others = members[0], members[1:]
    for size in range(len(others) + 1):
        for chosen in itertools.combinations(range(len(others)), size):
            rest = [other for place, other in enumerate(others) if place not in chosen]
            for parting in partings(rest):
                yield [[first] + [others[place] for place in chosen]] + parting


class LeastWay(unittest.TestCase):
    def test_no_other_groups_are_fewer_or_less_deep(self):
        dice = random.Random(7)
        for turn in range(20):
            room = dice.randint(1, 3)
            staying = sorted((dice.randint(1, 5) for member in range(dice.randint(1, 6))), reverse=True)
            shaft = Shaft(room, STRONGEST, 1)
            shaft.persons = [Person(level, 0) for level in sorted(staying)]
            groups = groups_to_fetch(shaft)
            self.assertEqual(sum(groups, []), staying)
            allowed = [parting for parting in partings(staying) if max(len(group) for group in parting) <= room]
            self.assertEqual(len(groups), min(len(parting) for parting in allowed))
            self.assertEqual(sum(max(group) for group in groups),
                             min(sum(max(group) for group in parting) for parting in allowed))


if __name__ == "__main__":
    unittest.main()
