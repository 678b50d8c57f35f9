"""Point 2: sh_level and sh_hire."""

import unittest

from driver import BIGGEST, STRONGEST, last, run

START = ("start", 8, STRONGEST, 100)
FIVE = [("level", depth, 0, 0) for depth in (10, 20, 30, 40, 50)]


class Levels(unittest.TestCase):
    def test_depth(self):
        for depth, answer in ((0, -22), (1, 1), (2000, 1), (2001, -22), (BIGGEST, -22)):
            self.assertEqual(last(START, ("level", depth, 0, 0)), answer, depth)

    def test_rate(self):
        for rate, answer in ((0, 1), (2000, 1), (2001, -22), (BIGGEST, -22)):
            self.assertEqual(last(START, ("level", 5, rate, 0)), answer, rate)

    def test_clear(self):
        for clear, answer in ((0, 1), (5000, 1), (5001, -22), (BIGGEST, -22)):
            self.assertEqual(last(START, ("level", 5, 0, clear)), answer, clear)

    def test_deeper_ones_come_later(self):
        for depth, answer in ((49, -22), (50, -22), (51, 2)):
            self.assertEqual(last(START, ("level", 50, 0, 0), ("level", depth, 0, 0)), answer, depth)

    def test_only_the_last_one_is_compared(self):
        self.assertEqual(
            run(START, ("level", 50, 0, 0), ("level", 90, 0, 0), ("level", 70, 0, 0), ("level", 91, 0, 0)),
            [0, 1, 2, -22, 3])

    def test_the_fifth_and_the_sixth(self):
        self.assertEqual(run(START, *FIVE, ("level", 60, 0, 0)), [0, 1, 2, 3, 4, 5, -28])
        self.assertEqual(last(START, *FIVE, ("level", 60, 0, 0), ("wind", 6)), -2)

    def test_wrong_is_told_ahead_of_full(self):
        for wrong in (("level", 50, 0, 0), ("level", 0, 0, 0), ("level", 2001, 0, 0),
                      ("level", 60, 2001, 0), ("level", 60, 0, 5001)):
            self.assertEqual(last(START, *FIVE, wrong), -22, wrong)

    def test_a_refused_one_is_not_there(self):
        self.assertEqual(run(START, ("level", 2001, 0, 0), ("wind", 1), ("level", 9, 0, 0)), [0, -22, -2, 1])

    def test_a_new_one_has_its_fan_off_and_no_gas_and_no_ore(self):
        told = run(START, ("level", 5, 2000, 0), ("wait", 3), ("level", 6, 2000, 0), ("fan", 2, 0), ("fan", 2, 1),
                   ("fan", 1, 1), ("wind", 2), ("load", 1))
        self.assertEqual(told, [0, 1, 3, 2, -17, 0, 6000, 1, -12])


class Persons(unittest.TestCase):
    def test_the_24th_and_the_25th(self):
        self.assertEqual(run(START, *[("hire",)] * 25), [0] + list(range(24)) + [-28])
        self.assertEqual(last(START, *[("hire",)] * 25, ("board", 23)), 1)
        self.assertEqual(last(START, *[("hire",)] * 25, ("board", 24)), -2)

    def test_they_come_above_ground(self):
        self.assertEqual(
            run(START, ("level", 10, 0, 0), ("wind", 1), ("hire",), ("board", 0), ("wind", 0), ("board", 0)),
            [0, 1, 1, 0, -16, 1, 1])


if __name__ == "__main__":
    unittest.main()
