"""What a shaft is at one moment, and how minutes go by in it."""

IN_CAGE = 9
CAGE_WEIGHT = 1000
PERSON_WEIGHT = 80
FOUL_ABOVE = 10000


class Level:
    def __init__(self, depth, rate, clears):
        self.depth = depth
        self.rate = rate
        self.clears = clears
        self.fan = 0
        self.gas = 0
        self.ore = 0


class Person:
    def __init__(self, place, since):
        self.place = place
        self.since = since


class Shaft:
    def __init__(self, room, rope, speed):
        self.room = room
        self.rope = rope
        self.speed = speed
        self.worn = 0
        self.minute = 0
        # Above ground stands first, so that a level's number is its place in this list.
        self.levels = [Level(0, 0, 0)]
        self.persons = []
        self.cage = 0
        self.tub = 0
        self.dumped = 0
        self.mined = 0
        self.locks = []


def copy_of_level(level):
    twin = Level(level.depth, level.rate, level.clears)
    twin.fan = level.fan
    twin.gas = level.gas
    twin.ore = level.ore
    return twin


def copy_of_shaft(shaft):
    twin = Shaft(shaft.room, shaft.rope, shaft.speed)
    twin.worn = shaft.worn
    twin.minute = shaft.minute
    twin.levels = [copy_of_level(level) for level in shaft.levels]
    twin.persons = [Person(person.place, person.since) for person in shaft.persons]
    twin.cage = shaft.cage
    twin.tub = shaft.tub
    twin.dumped = shaft.dumped
    twin.mined = shaft.mined
    twin.locks = [list(doors) for doors in shaft.locks]
    return twin


def is_level(shaft, number):
    """Whether there's such a level below ground."""
    return 1 <= number < len(shaft.levels)


def is_below(person):
    return person.place != IN_CAGE and person.place > 0


def persons_at(shaft, place):
    """The numbers of those there, the least first."""
    return [number for number, person in enumerate(shaft.persons) if person.place == place]


def count_at(shaft, place):
    return len(persons_at(shaft, place))


def on_the_rope(shaft):
    return CAGE_WEIGHT + PERSON_WEIGHT * count_at(shaft, IN_CAGE) + shaft.tub


def is_foul(level):
    return level.gas > FOUL_ABOVE


def gain_in_a_minute(level):
    return level.rate - level.clears * level.fan


def gas_after(level, minutes):
    # Rate and fan stay as they are meanwhile, so the gas only rises or only falls:
    # stopping it at 0 once, at the end, is the same as stopping it in each minute.
    return max(0, level.gas + minutes * gain_in_a_minute(level))


def pass_minutes(shaft, minutes):
    shaft.minute += minutes
    for level in shaft.levels:
        level.gas = gas_after(level, minutes)
