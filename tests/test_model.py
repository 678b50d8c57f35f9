"""Many calls at random against a second, slow telling of the document; and what holds over the whole program."""

import itertools
import random
import unittest

from driver import BIGGEST, CHANGES, NAMES, STRONGEST, told, told_step, wait_till
from mineshaft.rescue import groups_to_fetch
from mineshaft.state import Person, Shaft

CAGE = "cage"


class Model:
    """A shaft as the document tells it, by steps as small as they go, without taking back.

    Changes answer a number, questions a list.
    """

    def __init__(self, room, rope, speed):
        self.room, self.rope, self.speed = room, rope, speed
        self.worn = self.minute = self.tub = self.bin = self.mined = self.cage = 0
        self.depth, self.rate, self.cleared, self.fan_on, self.gas, self.heap = [0], [0], [0], [0], [0], [0]
        self.at = []
        self.minutes = []
        self.doors = []

    def twin(self):
        twin = Model(self.room, self.rope, self.speed)
        for name, value in vars(self).items():
            if isinstance(value, list):
                value = [set(part) if isinstance(part, set) else part for part in value]
            setattr(twin, name, value)
        return twin

    def tick(self, minutes):
        for passed in range(minutes):
            self.minute += 1
            for l in range(1, len(self.depth)):
                self.gas[l] = max(0, self.gas[l] + self.rate[l] - (self.cleared[l] if self.fan_on[l] else 0))

    def hanging(self):
        return 1000 + 80 * self.at.count(CAGE) + self.tub

    def parted(self, cage):
        """Depths of those whom the cage takes from there, and of those who stay, the deepest first."""
        below = sorted((self.depth[l] for l in self.at if l not in (0, CAGE)), reverse=True)
        taken = []
        if cage > 0:
            for depth in list(below):
                if depth <= self.depth[cage] and self.at.count(CAGE) + len(taken) < self.room:
                    taken.append(depth)
                    below.remove(depth)
        return taken, below

    def groups(self, cage):
        staying = self.parted(cage)[1]
        while staying:
            yield [staying.pop(0) for place in range(min(self.room, len(staying)))]

    def need(self, cage):
        total = self.depth[cage] * (self.hanging() + 80 * len(self.parted(cage)[0]))
        for group in self.groups(cage):
            total += max(group) * (2000 + 80 * len(group))
        return total

    def safe(self):
        return self.worn + self.need(self.cage) <= self.rope

    def next_step(self):
        if self.cage == 0:
            if CAGE in self.at:
                return ("leave", self.at.index(CAGE))
            if self.tub:
                return ("dump",)
            below = [l for l in self.at if l not in (0, CAGE)]
            return ("wind", max(below)) if below else None
        taken = self.parted(self.cage)[0]
        if taken and self.cage in self.at:
            return ("board", self.at.index(self.cage))
        return ("wind", self.depth.index(max(taken)) if taken else 0)

    def do_level(self, depth, rate, clear):
        if not 1 <= depth <= 2000 or rate > 2000 or clear > 5000 or self.depth[-1] >= depth:
            return -22
        if len(self.depth) == 6:
            return -28
        for row, value in ((self.depth, depth), (self.rate, rate), (self.cleared, clear), (self.fan_on, 0),
                           (self.gas, 0), (self.heap, 0)):
            row.append(value)
        return len(self.depth) - 1

    def do_hire(self):
        if len(self.at) == 24:
            return -28
        self.at.append(0)
        self.minutes.append(self.minute)
        return len(self.at) - 1

    def do_board(self, p):
        if p >= len(self.at):
            return -2
        if self.at[p] == CAGE:
            return -17
        if self.at[p] != self.cage:
            return -16
        if self.at.count(CAGE) == self.room:
            return -28
        self.at[p] = CAGE
        if self.cage == 0:
            self.minutes[p] = self.minute
        return self.at.count(CAGE)

    def do_leave(self, p):
        if p >= len(self.at):
            return -2
        if self.at[p] != CAGE:
            return -16
        if self.gas[self.cage] > 10000:
            return -13
        self.at[p] = self.cage
        if not self.safe():
            self.at[p] = CAGE
            return -62
        return self.at.count(CAGE)

    def do_wind(self, l):
        if l >= len(self.depth):
            return -2
        if l == self.cage:
            return -17
        metres = abs(self.depth[l] - self.depth[self.cage])
        if self.worn + metres * self.hanging() + self.need(l) > self.rope:
            return -62
        minutes = len(range(0, metres, self.speed))
        if self.minute + minutes > 1000000:
            return -75
        self.worn += metres * self.hanging()
        self.cage = l
        self.tick(minutes)
        return minutes

    def do_wait(self, n):
        if n not in range(1, 1441):
            return -22
        if self.minute + n > 999000:
            return -75
        self.tick(n)
        return self.minute

    def do_fan(self, l, on):
        if l not in range(1, len(self.depth)):
            return -2
        if on > 1:
            return -22
        if self.fan_on[l] == on:
            return -17
        self.fan_on[l] = on
        return self.gas[l]

    def do_mine(self, l, kg):
        if l not in range(1, len(self.depth)):
            return -2
        if kg not in range(1, 10001):
            return -22
        if l not in self.at:
            return -6
        self.heap[l] += kg
        self.mined += kg
        return self.heap[l]

    def do_load(self, kg):
        if self.cage == 0:
            return -16
        if kg == 0:
            return -22
        if self.heap[self.cage] < kg:
            return -12
        if self.tub + kg > 3000:
            return -28
        self.tub += kg
        if not self.safe():
            self.tub -= kg
            return -62
        self.heap[self.cage] -= kg
        return self.tub

    def do_dump(self):
        if self.cage:
            return -16
        if not self.tub:
            return -6
        self.bin += self.tub
        self.tub = 0
        return self.bin

    def do_rope(self, n):
        if n > STRONGEST:
            return -22
        if self.cage or set(self.at) - {0, CAGE}:
            return -16
        old, self.worn, self.rope = self.worn, 0, n
        return old

    def do_lock(self):
        if len(self.doors) == 4:
            return -28
        self.doors.append(set())
        return len(self.doors) - 1

    def do_open(self, k, side):
        if k >= len(self.doors):
            return -2
        if side > 1:
            return -22
        if self.doors[k]:
            return -17 if side in self.doors[k] else -16
        self.doors[k].add(side)
        return 0

    def do_shut(self, k, side):
        if k >= len(self.doors):
            return -2
        if side > 1:
            return -22
        if side not in self.doors[k]:
            return -17
        self.doors[k].remove(side)
        return 0


    def those(self, meant):
        """How many there are for whom that holds, and who, as bits."""
        found = [p for p in range(len(self.at)) if meant(p)]
        return [len(found), int("0" + "".join("01"[p in found] for p in reversed(range(24))), 2)]

    def is_below(self, p):
        return self.at[p] != CAGE and self.at[p] >= 1

    def do_where(self, p):
        if p >= len(self.at):
            return [-2]
        return [9 if self.at[p] == CAGE else self.at[p], self.minutes[p]]

    def do_below(self):
        return self.those(self.is_below)

    def do_who(self, l):
        return self.those(lambda p: self.at[p] == l) if l < len(self.depth) else [-2]

    def do_cage(self):
        return [self.cage, self.those(lambda p: self.at[p] == CAGE)[1], self.tub, self.hanging()]

    def do_need(self):
        return [len(list(self.groups(self.cage))) + (self.cage > 0), self.need(self.cage), self.worn, self.rope]

    def do_next(self):
        step = self.next_step()
        if step is None:
            return [-6]
        return [("board", "leave", "wind", "dump").index(step[0]), 0 if step == ("dump",) else step[1]]

    def do_gas(self, l):
        if l not in range(1, len(self.depth)):
            return [-2]
        later = self.twin()
        for minutes in range(1441):
            if later.gas[l] > 10000:
                return [self.gas[l], minutes + 1]
            later.tick(1)
        return [self.gas[l], 0]

    def do_foul(self):
        foul = [l for l in range(1, len(self.depth)) if self.gas[l] > 10000]
        return [len(foul), sum({1: 1, 2: 2, 3: 4, 4: 8, 5: 16}[l] for l in foul)]

    def do_long(self, n):
        return self.those(lambda p: self.is_below(p) and self.minute - self.minutes[p] >= n)

    def do_may(self, l):
        tried = self.twin()
        # So early that it can't be too late.
        tried.minute = 0
        answer = tried.do_wind(l)
        return [answer if answer < 0 else tried.worn - self.worn]

    def do_ore(self):
        return [self.bin, self.tub, sum(self.heap), self.mined]

    def do_doors(self):
        return [len(self.doors)] + [sum(2 ** k for k, doors in enumerate(self.doors) if side in doors)
                                    for side in (0, 1)]


class Line:
    """The model of one list of calls: a shaft, and all the changes since the start."""

    def __init__(self):
        self.shafts = []
        # The shaft there is now is the one at this place, and those behind it can be done again.
        self.now = 0
        # Those ahead of this place are too old.
        self.oldest = 0

    @property
    def shaft(self):
        return self.shafts[self.now]

    def start(self, room, rope, speed):
        if room not in range(1, 9) or rope > STRONGEST or speed not in range(1, 1001):
            return [-22]
        self.shafts, self.now, self.oldest = [Model(room, rope, speed)], 0, 0
        return [0]

    def change(self, name, *numbers):
        tried = self.shaft.twin()
        answer = getattr(tried, "do_" + name)(*numbers)
        if answer >= 0:
            self.now += 1
            self.shafts[self.now:] = [tried]
            self.oldest = max(self.oldest, self.now - 30)
        return [answer]

    def back(self):
        if self.now == self.oldest:
            return [-2]
        self.now -= 1
        return [self.now - self.oldest]

    def again(self):
        if self.now + 1 == len(self.shafts):
            return [-2]
        self.now += 1
        return [len(self.shafts) - self.now - 1]

    def state(self):
        shaft = self.shaft
        return [shaft.minute, len(shaft.depth) - 1, len(shaft.at), len(shaft.doors), self.now - self.oldest,
                len(self.shafts) - self.now - 1]

    def call(self, name, *numbers):
        if name in ("start", "back", "again", "state"):
            return getattr(self, name)(*numbers)
        if name in CHANGES:
            return self.change(name, *numbers)
        return getattr(self.shaft, "do_" + name)(*numbers)


OFTEN = {"level": 4, "hire": 6, "board": 20, "leave": 20, "wind": 25, "wait": 4, "fan": 4, "mine": 15, "load": 20,
         "dump": 4, "rope": 2, "open": 3, "shut": 3, "back": 4, "again": 5, "next": 4, "need": 4, "may": 4, "where": 4}


def random_call(dice, line, names=NAMES[1:]):
    """A call that is often not refused, at a shaft as the model has it."""
    shaft = line.shaft
    name = dice.choices(names, [OFTEN.get(name, 2) for name in names])[0]
    person = (dice.randint(0, len(shaft.at)),)
    level = dice.randint(0, len(shaft.depth) - 1 + (dice.random() < 0.1))
    if dice.random() < 0.5:
        # One who can leave or board just now, and a level at which somebody could mine.
        place = CAGE if name == "leave" else shaft.cage
        person = (dice.choice([p for p in range(len(shaft.at)) if shaft.at[p] == place] or [0]),)
        level = dice.choice([l for l in shaft.at if l not in (0, CAGE)] or [level])
    door = (dice.randint(0, len(shaft.doors)), dice.choice((0, 0, 1, 1, 2)))
    numbers = {
        "level": (shaft.depth[-1] + dice.randint(-1, 60), dice.randint(0, 2001), dice.randint(0, 5001)),
        "board": person, "leave": person, "where": person,
        "wind": (level,), "may": (level,), "who": (level,), "gas": (level,),
        "wait": (dice.choice((0, 1, 2, 3, 40, 1441)),),
        "fan": (level, dice.choice((0, 1, 1, 2))),
        "mine": (level, dice.choice((0, 1, 700, 5000, 10000, 10001))),
        "load": (dice.choice((0, 1, 300, 1500, 3000, 3001)),),
        "rope": (dice.choice((0, 2000000, 20000000, STRONGEST, STRONGEST + 1)),),
        "open": door, "shut": door,
        "long": (dice.choice((0, 1, 2, shaft.minute // 2, shaft.minute, shaft.minute + 1, BIGGEST)),),
    }
    return (name, *numbers.get(name, ()))


def random_start(dice):
    return ("start", dice.randint(1, 8), dice.choice((0, 300000, 1000000, 3000000, 20000000, STRONGEST)),
            dice.choice((1, 7, 100, 1000)))


class Talk:
    """Calls one behind another, with the model's answers to them."""

    def __init__(self, seed):
        self.dice = random.Random(seed)
        self.line = Line()
        self.calls, self.told = [], []
        self.say(*random_start(self.dice))

    def say(self, *call):
        self.calls.append(call)
        self.told.append(self.line.call(*call))
        return self.told[-1]

    def say_at_random(self, turns, names=NAMES[1:]):
        for turn in range(turns):
            self.say(*random_call(self.dice, self.line, names))


class AgainstTheModel(unittest.TestCase):
    def test_answers_are_alike(self):
        seen = set()
        for seed in range(150):
            talk = Talk(seed)
            talk.say_at_random(300)
            self.assertEqual(told(*talk.calls), talk.told, seed)
            seen.update((call[0], min(answer[0], 0)) for call, answer in zip(talk.calls, talk.told))
        # So that the calls drawn do reach what they're meant to reach.
        for reached in (("leave", -13), ("wind", -62), ("load", -62), ("load", -28), ("board", -28), ("rope", -16),
                        ("open", -16), ("mine", -6), ("level", -28), ("may", -62), ("may", -17), ("may", -2),
                        ("where", -2), ("who", -2), ("gas", -2), ("next", -6), ("back", -2), ("again", -2)):
            self.assertIn(reached, seen)
        self.assertEqual({name for name, answer in seen if answer == 0}, set(NAMES))

    def test_a_thousand_calls_of_all_kinds(self):
        for seed in range(1000, 1006):
            talk = Talk(seed)
            talk.say("start", 9, 0, 0)
            for part in range(3):
                talk.say_at_random(330)
                talk.say(*random_start(talk.dice))
            talk.say_at_random(1000 - len(talk.calls))
            self.assertEqual({call[0] for call in talk.calls}, set(NAMES))
            self.assertEqual(told(*talk.calls), talk.told, seed)

    def test_back_and_forth(self):
        # So often that the 30 that are kept are used up, and beyond.
        for seed in range(2000, 2030):
            talk = Talk(seed)
            for turn in range(12):
                talk.say_at_random(talk.dice.randint(0, 50), CHANGES)
                for name in ("back", "again", "back"):
                    for time in range(talk.dice.choice((0, 1, 3, 20, 31))):
                        talk.say(name)
                        talk.say("state")
                        talk.say("need")
            self.assertEqual(told(*talk.calls), talk.told, seed)


class WhatHolds(unittest.TestCase):
    def test_the_steps_told_bring_all_up(self):
        ways = set()
        for seed in range(200):
            talk = Talk(seed)
            talk.say_at_random(talk.dice.randint(40, 150))
            begun = len(talk.calls)
            step = told_step(talk.say("next"))
            while step is not None:
                talk.say(*step)
                step = told_step(talk.say("next"))
            for question in (("below",), ("cage",), ("who", 0), ("state",)):
                talk.say(*question)
            found = told(*talk.calls)
            below, cage, above, state = found[-4:]
            # Each step that was told is the call behind it, and that isn't refused.
            for place in range(begun, len(found) - 5, 2):
                self.assertEqual(talk.calls[place + 1], told_step(found[place]), seed)
                self.assertGreaterEqual(found[place + 1][0], 0, (seed, talk.calls[place + 1]))
                ways.add(found[place][0])
            self.assertEqual(found[-5], [-6], seed)
            self.assertEqual(below, [0, 0], seed)
            self.assertEqual(cage, [0, 0, 0, 1000], seed)
            self.assertEqual(above, [state[2], 2 ** state[2] - 1], seed)
        self.assertEqual(ways, {0, 1, 2, 3})

    def test_where_it_is_too_late_only_that_refuses(self):
        late = (("start", 1, STRONGEST, 1), ("level", 600, 0, 0), ("hire",), *wait_till(999000), ("board", 0),
                ("wind", 1), ("leave", 0))
        self.assertEqual(told(*late, ("next",), ("board", 0), ("next",), ("wind", 0), ("may", 0))[-5:],
                         [[0, 0], [1], [2, 0], [-75], [648000]])

    def looked_at(self, levels):
        """Questions that show where all are."""
        return [("need",), ("cage",), ("below",), ("ore",), ("doors",), ("foul",), ("state",),
                *[("who", l) for l in range(levels + 1)]]

    def test_after_every_call(self):
        for seed in range(3000, 3080):
            talk = Talk(seed)
            room = talk.calls[0][1]
            foul, cage_level = 0, 0
            looks = []
            while len(talk.calls) < 980:
                talk.say_at_random(1, (*CHANGES, "back", "again"))
                begun = len(talk.calls)
                for question in self.looked_at(len(talk.line.shaft.depth) - 1):
                    talk.say(*question)
                looks.append((begun, len(talk.calls)))
            found = told(*talk.calls)
            for begun, ended in looks:
                if talk.calls[begun - 1][0] == "leave" and found[begun - 1][0] >= 0 and cage_level > 0:
                    self.assertEqual(foul >> (cage_level - 1) & 1, 0, seed)
                need, cage, below, ore, doors, fouled, state, *levels = found[begun:ended]
                self.check_look(room, need, cage, below, ore, doors, state, levels)
                foul, cage_level = fouled[1], cage[0]

    def check_look(self, room, need, cage, below, ore, doors, state, levels):
        self.assertLessEqual(need[1] + need[2], need[3])
        places = [cage[1]] + [bits for many, bits in levels]
        # Each in one place: together all, and nobody twice.
        self.assertEqual(sum(places), 2 ** state[2] - 1)
        self.assertEqual(sum(bits.bit_count() for bits in places), state[2])
        self.assertEqual([many for many, bits in levels], [bits.bit_count() for bits in places[1:]])
        self.assertEqual(below, [sum(many for many, bits in levels[1:]), sum(bits for many, bits in levels[1:])])
        self.assertLessEqual(cage[1].bit_count(), room)
        self.assertLessEqual(cage[2], 3000)
        self.assertEqual(cage[3], 1000 + 80 * cage[1].bit_count() + cage[2])
        self.assertEqual(ore[0] + ore[1] + ore[2], ore[3])
        self.assertEqual(ore[1], cage[2])
        self.assertEqual(doors[1] & doors[2], 0)


def partings(members):
    """All ways to part the members into groups."""
    if not members:
        yield []
        return
    first, others = members[0], members[1:]
    for size in range(len(others) + 1):
        for chosen in itertools.combinations(range(len(others)), size):
            rest = [other for place, other in enumerate(others) if place not in chosen]
            for parting in partings(rest):
                yield [[first] + [others[place] for place in chosen]] + parting


class LeastWay(unittest.TestCase):
    def test_no_other_groups_are_fewer_or_less_deep(self):
        dice = random.Random(7)
        for turn in range(20):
            room = dice.randint(1, 3)
            staying = sorted((dice.randint(1, 5) for member in range(dice.randint(1, 6))), reverse=True)
            shaft = Shaft(room, STRONGEST, 1)
            shaft.persons = [Person(level, 0) for level in sorted(staying)]
            groups = groups_to_fetch(shaft)
            self.assertEqual(sum(groups, []), staying)
            allowed = [parting for parting in partings(staying) if max(len(group) for group in parting) <= room]
            self.assertEqual(len(groups), min(len(parting) for parting in allowed))
            self.assertEqual(sum(max(group) for group in groups),
                             min(sum(max(group) for group in parting) for parting in allowed))


if __name__ == "__main__":
    unittest.main()
