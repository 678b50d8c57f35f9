"""Point 7: sh_where, sh_below, sh_who and sh_cage."""

import unittest

from driver import BIGGEST, STRONGEST, asked, told

# 30 and 50 metres deep, 10 metres a minute, room for three.
BASE = (("start", 3, STRONGEST, 10), ("level", 30, 0, 0), ("level", 50, 0, 0), *[("hire",)] * 5)
# Persons 1 and 3 stand at level 1, 4 at level 2, 2 is in the cage there, 0 is above ground.
SPREAD = (*BASE, ("board", 1), ("board", 3), ("wind", 1), ("leave", 1), ("leave", 3), ("wind", 0), ("board", 4),
          ("board", 2), ("wind", 2), ("leave", 4))


class Where(unittest.TestCase):
    def test_the_level_or_the_cage(self):
        self.assertEqual([asked(*SPREAD, ("where", p))[0] for p in range(5)], [0, 1, 9, 1, 2])

    def test_there_is_none(self):
        for p in (5, 9, BIGGEST):
            self.assertEqual(asked(*SPREAD, ("where", p)), [-2])
        self.assertEqual(asked(("start", 1, 0, 1), ("where", 0)), [-2])

    def test_in_the_cage_above_ground_and_below(self):
        found = told(*BASE, ("board", 0), ("where", 0), ("wind", 2), ("where", 0), ("leave", 0), ("where", 0),
                     ("wind", 0), ("where", 0))
        self.assertEqual([answer[0] for answer in found[-7::2]], [9, 9, 2, 2])

    def test_the_minute_in_which_they_came(self):
        found = told(("start", 1, 0, 1), ("hire",), ("wait", 4), ("hire",), ("wait", 7), ("hire",), ("wait", 1),
                     ("where", 0), ("where", 1), ("where", 2))
        self.assertEqual(found[-3:], [[0, 0], [0, 4], [0, 11]])

    def test_the_minute_in_which_they_boarded_above_ground(self):
        found = told(*BASE, ("wait", 6), ("board", 0), ("where", 0), ("wait", 2), ("where", 0), ("leave", 0),
                     ("where", 0), ("board", 0), ("where", 0))
        self.assertEqual(found[-8], [1])
        self.assertEqual([found[-7], found[-5], found[-3], found[-1]], [[9, 6], [9, 6], [0, 6], [9, 8]])

    def test_boarding_below_leaves_the_minute_as_it_is(self):
        found = told(*BASE, ("wait", 6), ("board", 0), ("wind", 1), ("leave", 0), ("where", 0), ("wait", 5),
                     ("board", 0), ("where", 0), ("wind", 0), ("leave", 0), ("where", 0), ("board", 0), ("where", 0))
        self.assertEqual([found[-9], found[-6], found[-3], found[-1]], [[1, 6], [9, 6], [0, 6], [9, 17]])

    def test_a_refused_boarding_leaves_the_minute_as_it_is(self):
        there = (("start", 1, STRONGEST, 10), ("level", 30, 0, 0), ("hire",), ("hire",), ("board", 0), ("wait", 9))
        self.assertEqual(asked(*there, ("board", 0), ("where", 0)), [9, 0])
        self.assertEqual(asked(*there, ("board", 1), ("where", 1)), [0, 0])
        self.assertEqual(asked(*there, ("wind", 1), ("board", 1), ("where", 1)), [0, 0])


class Below(unittest.TestCase):
    def test_as_bits(self):
        self.assertEqual(asked(*SPREAD, ("below",)), [3, 2 + 8 + 16])

    def test_nobody(self):
        self.assertEqual(asked(("start", 1, 0, 1), ("below",)), [0, 0])
        self.assertEqual(asked(*BASE, ("below",)), [0, 0])

    def test_those_in_the_cage_are_not_below(self):
        found = told(*BASE, ("board", 0), ("wind", 2), ("below",), ("leave", 0), ("below",), ("board", 0), ("below",))
        self.assertEqual(found[-5::2], [[0, 0], [1, 1], [0, 0]])

    def test_all_24(self):
        calls = [("start", 8, STRONGEST, 100), ("level", 10, 0, 0)] + [("hire",)] * 24
        for first in (0, 8, 16):
            calls += [("board", p) for p in range(first, first + 8)] + [("wind", 1)]
            calls += [("leave", p) for p in range(first, first + 8)] + [("wind", 0)]
        self.assertEqual(asked(*calls, ("below",)), [24, 2 ** 24 - 1])
        self.assertEqual(asked(*calls, ("who", 1)), [24, 2 ** 24 - 1])


class Who(unittest.TestCase):
    def test_at_each_level(self):
        self.assertEqual([asked(*SPREAD, ("who", l)) for l in range(3)], [[1, 1], [2, 2 + 8], [1, 16]])

    def test_there_is_none(self):
        # 9 tells of a person that they are in the cage; a level it isn't.
        for l in (3, 9, BIGGEST):
            self.assertEqual(asked(*SPREAD, ("who", l)), [-2])

    def test_above_ground_is_there_without_levels(self):
        self.assertEqual(told(("start", 1, 0, 1), ("who", 0), ("hire",), ("who", 0), ("who", 1))[1::2],
                         [[0, 0], [1, 1]])
        self.assertEqual(asked(("start", 1, 0, 1), ("who", 1)), [-2])

    def test_those_in_the_cage_are_at_no_level(self):
        self.assertEqual(told(*BASE, ("board", 1), ("who", 0), ("wind", 1), ("who", 1), ("who", 0))[-4::2],
                         [[4, 1 + 4 + 8 + 16], [0, 0]])


class Cage(unittest.TestCase):
    def test_at_first(self):
        self.assertEqual(asked(("start", 1, 0, 1), ("cage",)), [0, 0, 0, 1000])

    def test_persons_and_ore(self):
        found = told(*SPREAD, ("cage",), ("mine", 2, 700), ("load", 650), ("cage",), ("board", 4), ("cage",),
                     ("wind", 1), ("cage",), ("board", 3), ("cage",), ("wind", 0), ("dump",), ("cage",),
                     ("leave", 3), ("cage",))
        self.assertEqual([answer for answer in found[len(SPREAD):] if len(answer) == 4], [
            [2, 4, 0, 1080], [2, 4, 650, 1730], [2, 20, 650, 1810], [1, 20, 650, 1810], [1, 28, 650, 1890],
            [0, 28, 0, 1240], [0, 20, 0, 1160]])

    def test_the_most_that_hangs_on_the_rope(self):
        boarding = [("board", p) for p in range(16, 24)]
        calls = [("start", 8, STRONGEST, 100), ("level", 10, 0, 0), *[("hire",)] * 24, *boarding, ("wind", 1),
                 ("leave", 16), ("mine", 1, 3000), ("load", 3000), ("board", 16)]
        self.assertEqual(asked(*calls, ("cage",)), [1, 255 << 16, 3000, 4640])


if __name__ == "__main__":
    unittest.main()
