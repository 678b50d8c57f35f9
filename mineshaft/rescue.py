"""What the rope must still bear to bring all up."""

from mineshaft.state import CAGE_WEIGHT, IN_CAGE, PERSON_WEIGHT, count_at, is_below, on_the_rope


def levels_of_those_below(shaft):
    # Deeper levels have greater numbers, so the deepest come first.
    return sorted([person.place for person in shaft.persons if is_below(person)], reverse=True)


def taken_along(shaft):
    """The levels of those whom the cage takes with it, the deepest first."""
    reached = [place for place in levels_of_those_below(shaft) if place <= shaft.cage]
    return reached[:shaft.room - count_at(shaft, IN_CAGE)]


def groups_to_fetch(shaft):
    """The levels of those who stay, group by group, the deepest first."""
    below = levels_of_those_below(shaft)
    deeper = [place for place in below if place > shaft.cage]
    staying = deeper + below[len(deeper) + len(taken_along(shaft)):]
    return [staying[first:first + shaft.room] for first in range(0, len(staying), shaft.room)]


def wear_to_fetch(shaft, group):
    # The empty cage goes down and comes up again, the group only comes up.
    return shaft.levels[group[0]].depth * (2 * CAGE_WEIGHT + PERSON_WEIGHT * len(group))


def needed(shaft):
    load = on_the_rope(shaft) + PERSON_WEIGHT * len(taken_along(shaft))
    fetching = sum([wear_to_fetch(shaft, group) for group in groups_to_fetch(shaft)])
    return shaft.levels[shaft.cage].depth * load + fetching


def is_safe(shaft):
    return shaft.worn + needed(shaft) <= shaft.rope
