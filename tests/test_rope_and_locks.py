"""Point 6: sh_rope, sh_lock, sh_open and sh_shut."""

import unittest

from driver import BIGGEST, STRONGEST, last, run

START = ("start", 2, 1000000, 10)


class Rope(unittest.TestCase):
    def test_how_strong(self):
        for rope, answer in ((0, 0), (1, 0), (STRONGEST, 0), (STRONGEST + 1, -22), (BIGGEST, -22)):
            self.assertEqual(last(START, ("rope", rope)), answer, rope)

    def test_the_old_one_had_worn_and_the_new_one_has_not(self):
        told = run(START, ("level", 100, 0, 0), ("wind", 1), ("wind", 0), ("rope", 200000), ("wind", 1), ("wind", 0),
                   ("wind", 1), ("rope", 199999), ("wind", 1), ("rope", 7))
        self.assertEqual(told[4:], [200000, 10, 10, -62, 200000, -62, 0])

    def test_the_cage_below(self):
        there = (START, ("level", 100, 0, 0), ("wind", 1))
        self.assertEqual(last(*there, ("rope", 5)), -16)
        self.assertEqual(last(*there, ("rope", STRONGEST + 1)), -22)

    def test_somebody_below(self):
        there = (START, ("level", 100, 0, 0), ("hire",), ("hire",), ("board", 0), ("wind", 1), ("leave", 0), ("wind", 0))
        self.assertEqual(last(*there, ("rope", STRONGEST)), -16)
        self.assertEqual(last(*there, ("rope", STRONGEST + 1)), -22)
        self.assertEqual(last(*there, ("wind", 1), ("board", 0), ("wind", 0), ("rope", 5)), 416000)

    def test_somebody_in_the_cage_above_ground_is_not_below(self):
        self.assertEqual(last(START, ("hire",), ("board", 0), ("rope", 5)), 0)

    def test_a_refused_one_is_not_there(self):
        told = run(("start", 1, 200000, 10), ("level", 100, 0, 0), ("wind", 1), ("rope", 9), ("wind", 0),
                   ("rope", STRONGEST + 1), ("rope", 0))
        self.assertEqual(told[3:], [-16, 10, -22, 200000])


class Locks(unittest.TestCase):
    def test_four_and_a_fifth(self):
        self.assertEqual(run(START, *[("lock",)] * 5, ("open", 3, 0), ("open", 4, 0)), [0, 0, 1, 2, 3, -28, 0, -2])

    def test_both_doors_are_shut_at_first(self):
        self.assertEqual(run(START, ("lock",), ("shut", 0, 0), ("shut", 0, 1), ("open", 0, 1))[2:], [-17, -17, 0])

    def test_never_both_open(self):
        for side in (0, 1):
            told = run(START, ("lock",), ("open", 0, side), ("open", 0, 1 - side), ("open", 0, side),
                       ("shut", 0, 1 - side), ("shut", 0, side), ("open", 0, 1 - side), ("open", 0, side))
            self.assertEqual(told[2:], [0, -16, -17, -17, 0, 0, -16], side)

    def test_refusals_of_opening_in_their_order(self):
        there = (START, ("lock",), ("open", 0, 0))
        for call, answer in ((("open", 1, 2), -2), (("open", BIGGEST, 0), -2), (("open", 0, 2), -22),
                             (("open", 0, BIGGEST), -22), (("open", 0, 0), -17), (("open", 0, 1), -16)):
            self.assertEqual(last(*there, call), answer, call)

    def test_refusals_of_shutting_in_their_order(self):
        there = (START, ("lock",), ("open", 0, 0))
        for call, answer in ((("shut", 1, 2), -2), (("shut", BIGGEST, 0), -2), (("shut", 0, 2), -22),
                             (("shut", 0, BIGGEST), -22), (("shut", 0, 1), -17), (("shut", 0, 0), 0)):
            self.assertEqual(last(*there, call), answer, call)

    def test_each_lock_by_itself(self):
        told = run(START, ("lock",), ("lock",), ("open", 0, 0), ("open", 1, 1), ("open", 1, 0), ("shut", 1, 0),
                   ("shut", 0, 0), ("shut", 1, 1))
        self.assertEqual(told[3:], [0, 0, -16, -17, 0, 0])


if __name__ == "__main__":
    unittest.main()
