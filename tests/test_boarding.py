"""Point 3: sh_board and sh_leave."""

import unittest

from driver import BIGGEST, STRONGEST, last, run, wait_till
from mineshaft.changes import sh_leave
from mineshaft.state import IN_CAGE, Level, Person, Shaft


class Boarding(unittest.TestCase):
    def test_the_answer_is_how_many_are_in_the_cage(self):
        self.assertEqual(
            run(("start", 3, 0, 1), *[("hire",)] * 3, ("board", 2), ("board", 0), ("board", 1), ("leave", 0),
                ("leave", 2), ("board", 2))[4:],
            [1, 2, 3, 2, 1, 2])

    def test_room(self):
        for room in (1, 2, 8):
            told = run(("start", room, 0, 1), *[("hire",)] * (room + 1), *[("board", p) for p in range(room + 1)])
            self.assertEqual(told[-room - 1:], list(range(1, room + 1)) + [-28])

    def test_room_is_free_again(self):
        told = run(("start", 1, 0, 1), ("hire",), ("hire",), ("board", 0), ("board", 1), ("leave", 0), ("board", 1))
        self.assertEqual(told[3:], [1, -28, 0, 1])

    def test_refusals_in_their_order(self):
        full = (("start", 1, STRONGEST, 10), ("level", 10, 0, 0), ("hire",), ("hire",), ("board", 0))
        self.assertEqual(last(*full, ("board", 2)), -2)
        self.assertEqual(last(*full, ("board", BIGGEST)), -2)
        self.assertEqual(last(*full, ("board", 0)), -17)
        self.assertEqual(last(*full, ("board", 1)), -28)
        # Neither at its level nor room for them: the level is told first.
        self.assertEqual(last(*full, ("wind", 1), ("board", 1)), -16)

    def test_below_ground(self):
        told = run(("start", 2, STRONGEST, 10), ("level", 10, 0, 0), ("level", 30, 0, 0), ("hire",), ("board", 0),
                   ("wind", 1), ("leave", 0), ("wind", 2), ("board", 0), ("wind", 1), ("board", 0), ("board", 0))
        self.assertEqual(told[4:], [1, 1, 0, 2, -16, 2, 1, -17])


class Leaving(unittest.TestCase):
    def test_refusals_in_their_order(self):
        foul = (("start", 2, STRONGEST, 10), ("level", 10, 2000, 0), ("hire",), ("hire",), ("board", 0),
                ("wait", 5), ("wind", 1))
        self.assertEqual(last(*foul, ("leave", 2)), -2)
        self.assertEqual(last(*foul, ("leave", BIGGEST)), -2)
        self.assertEqual(last(*foul, ("leave", 1)), -16)
        self.assertEqual(last(*foul, ("leave", 0)), -13)

    def test_they_left_already(self):
        self.assertEqual(
            run(("start", 2, 0, 10), ("hire",), ("leave", 0), ("board", 0), ("leave", 0), ("leave", 0))[2:],
            [-16, 1, 0, -16])

    def test_foul_air(self):
        # 1,000 parts a minute, and one minute of winding.
        for waited, rate, answer in ((9, 1000, 0), (10, 1000, -13)):
            told = last(("start", 1, STRONGEST, 10), ("level", 10, rate, 0), ("hire",), ("board", 0),
                        ("wait", waited), ("wind", 1), ("leave", 0))
            self.assertEqual(told, answer, waited)

    def test_one_part_too_many(self):
        # 73 minutes of 137 parts are 10,001; 80 minutes of 125 are 10,000.
        base = (("start", 1, STRONGEST, 10), ("hire",), ("board", 0))
        self.assertEqual(last(*base, ("level", 10, 137, 0), ("wait", 72), ("wind", 1), ("fan", 1, 1)), 10001)
        self.assertEqual(last(*base, ("level", 10, 137, 0), ("wait", 72), ("wind", 1), ("leave", 0)), -13)
        self.assertEqual(last(*base, ("level", 10, 125, 0), ("wait", 79), ("wind", 1), ("fan", 1, 1)), 10000)
        self.assertEqual(last(*base, ("level", 10, 125, 0), ("wait", 79), ("wind", 1), ("leave", 0)), 0)

    def test_only_the_air_of_the_cages_level(self):
        told = run(("start", 1, STRONGEST, 10), ("level", 10, 2000, 0), ("level", 20, 0, 0), ("hire",), ("board", 0),
                   ("wait", 100), ("leave", 0), ("board", 0), ("wind", 2), ("leave", 0))
        self.assertEqual(told[-4:], [0, 1, 2, 0])

    def test_above_ground_the_air_is_never_foul(self):
        told = last(("start", 1, 0, 1), ("level", 10, 2000, 0), ("hire",), ("board", 0), *wait_till(20000), ("leave", 0))
        self.assertEqual(told, 0)

    def test_cleared_air_lets_them_out(self):
        told = run(("start", 1, STRONGEST, 10), ("level", 10, 2000, 5000), ("hire",), ("board", 0), ("wait", 5),
                   ("wind", 1), ("leave", 0), ("fan", 1, 1), ("wait", 1), ("leave", 0))
        self.assertEqual(told[-4:], [-13, 12000, 7, 0])

    def test_boarding_is_allowed_in_foul_air(self):
        told = run(("start", 1, STRONGEST, 10), ("level", 10, 2000, 0), ("hire",), ("board", 0), ("wind", 1),
                   ("leave", 0), ("wait", 100), ("board", 0), ("leave", 0))
        self.assertEqual(told[-4:], [0, 101, 1, -13])

    def test_a_rope_that_is_just_enough(self):
        # 100 metres with 1,080 kilograms, down and up.
        calls = (("level", 100, 0, 0), ("hire",), ("board", 0), ("wind", 1), ("leave", 0))
        self.assertEqual(run(("start", 1, 216000, 10), *calls)[-2:], [10, 0])
        self.assertEqual(run(("start", 1, 215999, 10), *calls)[-2:], [-62, 0])
        # The refused winding left the cage above ground, so they left it there.
        self.assertEqual(last(("start", 1, 215999, 10), *calls, ("mine", 1, 1)), -6)

    def test_a_leaving_that_would_not_be_safe(self):
        # No calls lead to a shaft that isn't safe, so one is made by hand.
        for worn, answer in ((0, 0), (1, -62)):
            shaft = Shaft(1, 108000, 10)
            shaft.levels.append(Level(100, 0, 0))
            shaft.persons.append(Person(IN_CAGE, 0))
            shaft.cage = 1
            shaft.worn = worn
            self.assertEqual(sh_leave(shaft, 0), answer, worn)


if __name__ == "__main__":
    unittest.main()
