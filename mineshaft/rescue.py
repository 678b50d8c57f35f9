"""How all are brought up: what the rope must still bear for it, and the next step."""

from mineshaft.state import CAGE_WEIGHT, IN_CAGE, PERSON_WEIGHT, count_at, is_below, on_the_rope, persons_at

# The kinds of steps, by the numbers that tell them.
BOARDS = 0
LEAVES = 1
IS_WOUND = 2
IS_DUMPED = 3


def levels_of_those_below(shaft):
    # Deeper levels have greater numbers, so the deepest come first.
    return sorted([person.place for person in shaft.persons if is_below(person)], reverse=True)


def taken_along(shaft):
    """The levels of those whom the cage takes with it, the deepest first."""
    reached = [place for place in levels_of_those_below(shaft) if place <= shaft.cage]
    return reached[:shaft.room - count_at(shaft, IN_CAGE)]


def groups_to_fetch(shaft):
    """The levels of those who stay, group by group, the deepest first."""
    below = levels_of_those_below(shaft)
    deeper = [place for place in below if place > shaft.cage]
    staying = deeper + below[len(deeper) + len(taken_along(shaft)):]
    return [staying[first:first + shaft.room] for first in range(0, len(staying), shaft.room)]


def wear_to_fetch(shaft, group):
    # The empty cage goes down and comes up again, the group only comes up.
    return shaft.levels[group[0]].depth * (2 * CAGE_WEIGHT + PERSON_WEIGHT * len(group))


def needed(shaft):
    load = on_the_rope(shaft) + PERSON_WEIGHT * len(taken_along(shaft))
    fetching = sum([wear_to_fetch(shaft, group) for group in groups_to_fetch(shaft)])
    return shaft.levels[shaft.cage].depth * load + fetching


def is_safe(shaft):
    return shaft.worn + needed(shaft) <= shaft.rope


def step_above_ground(shaft):
    inside = persons_at(shaft, IN_CAGE)
    if len(inside) > 0:
        return [LEAVES, inside[0]]
    if shaft.tub > 0:
        return [IS_DUMPED, 0]
    below = levels_of_those_below(shaft)
    if len(below) > 0:
        return [IS_WOUND, below[0]]
    return None


def step_below_ground(shaft):
    taken = taken_along(shaft)
    if len(taken) == 0:
        return [IS_WOUND, 0]
    # The deepest come first: if anybody is at the cage's level, the first one taken is.
    if taken[0] == shaft.cage:
        return [BOARDS, persons_at(shaft, shaft.cage)[0]]
    return [IS_WOUND, taken[0]]


def next_step(shaft):
    """The kind of the next step, and the person or the level it's about; None if there's none."""
    if shaft.cage == 0:
        return step_above_ground(shaft)
    return step_below_ground(shaft)
