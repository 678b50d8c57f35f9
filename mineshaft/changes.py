"""The calls that change a shaft.

Each is handed a shaft that is thrown away if the call is refused, so it may
try a change out on it before it refuses.
"""

from mineshaft.refusals import (
    ALREADY, FOUL, FULL, HINDERED, MISSING, NOTHING, TOO_LATE, TOO_LITTLE, UNSAFE, WRONG)
from mineshaft.rescue import is_safe
from mineshaft.state import IN_CAGE, Level, Person, count_at, is_below, is_foul, is_level, pass_minutes
from mineshaft.winding import metres_to, move_cage, winding_refusal

MOST_LEVELS = 5
DEEPEST = 2000
MOST_GAS = 2000
MOST_CLEARED = 5000
MOST_PERSONS = 24
LONGEST_WAIT = 1440
LAST_MINUTE_TO_WAIT = 999000
LAST_MINUTE_TO_WIND = 1000000
MOST_MINED_AT_ONCE = 10000
MOST_EVER_MINED = 2000000000
TUB_HOLDS = 3000
STRONGEST_ROPE = 2000000000
MOST_LOCKS = 4


def sh_level(shaft, depth, rate, clears):
    if depth < 1 or depth > DEEPEST or rate > MOST_GAS or clears > MOST_CLEARED:
        return WRONG
    if depth <= shaft.levels[-1].depth:
        return WRONG
    if len(shaft.levels) > MOST_LEVELS:
        return FULL
    shaft.levels.append(Level(depth, rate, clears))
    return len(shaft.levels) - 1


def sh_hire(shaft):
    if len(shaft.persons) >= MOST_PERSONS:
        return FULL
    shaft.persons.append(Person(0, shaft.minute))
    return len(shaft.persons) - 1


def sh_board(shaft, number):
    if number >= len(shaft.persons):
        return MISSING
    person = shaft.persons[number]
    if person.place == IN_CAGE:
        return ALREADY
    if person.place != shaft.cage:
        return HINDERED
    if count_at(shaft, IN_CAGE) >= shaft.room:
        return FULL
    person.place = IN_CAGE
    if shaft.cage == 0:
        person.since = shaft.minute
    return count_at(shaft, IN_CAGE)


def sh_leave(shaft, number):
    if number >= len(shaft.persons):
        return MISSING
    person = shaft.persons[number]
    if person.place != IN_CAGE:
        return HINDERED
    if is_foul(shaft.levels[shaft.cage]):
        return FOUL
    person.place = shaft.cage
    if not is_safe(shaft):
        return UNSAFE
    return count_at(shaft, IN_CAGE)


def sh_wind(shaft, number):
    refusal = winding_refusal(shaft, number)
    if refusal < 0:
        return refusal
    minutes = (metres_to(shaft, number) + shaft.speed - 1) // shaft.speed
    if shaft.minute + minutes > LAST_MINUTE_TO_WIND:
        return TOO_LATE
    move_cage(shaft, number)
    pass_minutes(shaft, minutes)
    return minutes


def sh_wait(shaft, minutes):
    if minutes < 1 or minutes > LONGEST_WAIT:
        return WRONG
    if shaft.minute + minutes > LAST_MINUTE_TO_WAIT:
        return TOO_LATE
    pass_minutes(shaft, minutes)
    return shaft.minute


def sh_fan(shaft, number, fan):
    if not is_level(shaft, number):
        return MISSING
    if fan > 1:
        return WRONG
    level = shaft.levels[number]
    if level.fan == fan:
        return ALREADY
    level.fan = fan
    return level.gas


def sh_mine(shaft, number, kilograms):
    if not is_level(shaft, number):
        return MISSING
    if kilograms < 1 or kilograms > MOST_MINED_AT_ONCE:
        return WRONG
    if count_at(shaft, number) == 0:
        return NOTHING
    if shaft.mined + kilograms > MOST_EVER_MINED:
        return FULL
    level = shaft.levels[number]
    level.ore += kilograms
    shaft.mined += kilograms
    return level.ore


def sh_load(shaft, kilograms):
    if shaft.cage == 0:
        return HINDERED
    if kilograms == 0:
        return WRONG
    level = shaft.levels[shaft.cage]
    if level.ore < kilograms:
        return TOO_LITTLE
    if shaft.tub + kilograms > TUB_HOLDS:
        return FULL
    level.ore -= kilograms
    shaft.tub += kilograms
    if not is_safe(shaft):
        return UNSAFE
    return shaft.tub


def sh_dump(shaft):
    if shaft.cage != 0:
        return HINDERED
    if shaft.tub == 0:
        return NOTHING
    shaft.dumped += shaft.tub
    shaft.tub = 0
    return shaft.dumped


def sh_rope(shaft, rope):
    if rope > STRONGEST_ROPE:
        return WRONG
    if shaft.cage != 0 or any([is_below(person) for person in shaft.persons]):
        return HINDERED
    worn = shaft.worn
    shaft.rope = rope
    shaft.worn = 0
    return worn


def sh_lock(shaft):
    if len(shaft.locks) >= MOST_LOCKS:
        return FULL
    shaft.locks.append([False, False])
    return len(shaft.locks) - 1


def door_refusal(shaft, lock, side, wanted):
    """Why a door can't be made open (wanted: True) or shut; 0 if nothing speaks against it."""
    if lock >= len(shaft.locks):
        return MISSING
    if side > 1:
        return WRONG
    if shaft.locks[lock][side] == wanted:
        return ALREADY
    return 0


def sh_open(shaft, lock, side):
    refusal = door_refusal(shaft, lock, side, True)
    if refusal < 0:
        return refusal
    if shaft.locks[lock][1 - side]:
        return HINDERED
    shaft.locks[lock][side] = True
    return 0


def sh_shut(shaft, lock, side):
    refusal = door_refusal(shaft, lock, side, False)
    if refusal < 0:
        return refusal
    shaft.locks[lock][side] = False
    return 0


# In the order of the calls' numbers, from 1 on.
CHANGES = (
    sh_level, sh_hire, sh_board, sh_leave, sh_wind, sh_wait, sh_fan,
    sh_mine, sh_load, sh_dump, sh_rope, sh_lock, sh_open, sh_shut)
