"""The calls that ask: each answers a list, its number first and behind it what stands under out.

They are handed the shaft itself, and change nothing of it.
"""

from mineshaft.refusals import MISSING, NOTHING
from mineshaft.rescue import groups_to_fetch, needed, next_step
from mineshaft.state import (
    FOUL_ABOVE, IN_CAGE, gain_in_a_minute, is_below, is_foul, is_level, on_the_rope, persons_at)
from mineshaft.winding import wear_to, winding_refusal

FORESEEN_MINUTES = 1440


def as_bits(numbers):
    return sum([1 << number for number in numbers])


def counted(numbers):
    return [len(numbers), as_bits(numbers)]


def sh_where(shaft, number):
    if number >= len(shaft.persons):
        return [MISSING]
    person = shaft.persons[number]
    return [person.place, person.since]


def sh_below(shaft):
    return counted([number for number, person in enumerate(shaft.persons) if is_below(person)])


def sh_who(shaft, number):
    if number >= len(shaft.levels):
        return [MISSING]
    return counted(persons_at(shaft, number))


def sh_cage(shaft):
    return [shaft.cage, as_bits(persons_at(shaft, IN_CAGE)), shaft.tub, on_the_rope(shaft)]


def sh_need(shaft):
    times_up = len(groups_to_fetch(shaft))
    if shaft.cage > 0:
        times_up += 1
    return [times_up, needed(shaft), shaft.worn, shaft.rope]


def sh_next(shaft):
    step = next_step(shaft)
    if step is None:
        return [NOTHING]
    return step


def warning_of(level):
    """0 if the air won't be foul in the minutes foreseen, else one more than the minutes till then."""
    if is_foul(level):
        return 1
    gain = gain_in_a_minute(level)
    if gain <= 0:
        return 0
    minutes = (FOUL_ABOVE - level.gas) // gain + 1
    if minutes > FORESEEN_MINUTES:
        return 0
    return minutes + 1


def sh_gas(shaft, number):
    if not is_level(shaft, number):
        return [MISSING]
    level = shaft.levels[number]
    return [level.gas, warning_of(level)]


def sh_foul(shaft):
    # Bit 0 is for level 1. Above ground, where no gas comes, is never among them.
    return counted([number - 1 for number, level in enumerate(shaft.levels) if is_foul(level)])


def sh_long(shaft, minutes):
    latest = shaft.minute - minutes
    return counted([number for number, person in enumerate(shaft.persons)
                    if is_below(person) and person.since <= latest])


def sh_may(shaft, number):
    refusal = winding_refusal(shaft, number)
    if refusal < 0:
        return [refusal]
    return [wear_to(shaft, number)]


def sh_ore(shaft):
    return [shaft.dumped, shaft.tub, sum([level.ore for level in shaft.levels]), shaft.mined]


def locks_open_at(shaft, side):
    return as_bits([number for number, doors in enumerate(shaft.locks) if doors[side]])


def sh_doors(shaft):
    return [len(shaft.locks), locks_open_at(shaft, 0), locks_open_at(shaft, 1)]


# In the order of the calls' numbers, from 15 on.
QUESTIONS = (
    sh_where, sh_below, sh_who, sh_cage, sh_need, sh_next, sh_gas, sh_foul, sh_long, sh_may, sh_ore, sh_doors)
