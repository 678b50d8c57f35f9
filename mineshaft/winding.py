"""What it takes to wind the cage to another level."""

from mineshaft.refusals import ALREADY, MISSING, UNSAFE
from mineshaft.rescue import is_safe
from mineshaft.state import copy_of_shaft, on_the_rope


def metres_to(shaft, number):
    return abs(shaft.levels[number].depth - shaft.levels[shaft.cage].depth)


def wear_to(shaft, number):
    return metres_to(shaft, number) * on_the_rope(shaft)


def move_cage(shaft, number):
    shaft.worn += wear_to(shaft, number)
    shaft.cage = number


def would_be_safe_at(shaft, number):
    twin = copy_of_shaft(shaft)
    move_cage(twin, number)
    return is_safe(twin)


def winding_refusal(shaft, number):
    """Why the cage can't be wound there, whatever the minute; 0 if nothing speaks against it."""
    if number >= len(shaft.levels):
        return MISSING
    if number == shaft.cage:
        return ALREADY
    if not would_be_safe_at(shaft, number):
        return UNSAFE
    return 0
