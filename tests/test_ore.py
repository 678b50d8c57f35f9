"""Point 5: sh_mine, sh_load and sh_dump."""

import unittest

from driver import BIGGEST, STRONGEST, last, run
from mineshaft.changes import sh_mine
from mineshaft.state import Level, Person, Shaft

# One stands at level 1, the cage is there too, and nobody is at level 2.
AT_WORK = (("start", 2, STRONGEST, 10), ("level", 100, 0, 0), ("level", 200, 0, 0), ("hire",), ("hire",),
           ("board", 0), ("wind", 1), ("leave", 0))


class Mining(unittest.TestCase):
    def test_how_much(self):
        for kilograms, answer in ((0, -22), (1, 1), (10000, 10000), (10001, -22), (BIGGEST, -22)):
            self.assertEqual(last(*AT_WORK, ("mine", 1, kilograms)), answer, kilograms)

    def test_refusals_in_their_order(self):
        for call, answer in ((("mine", 0, 0), -2), (("mine", 0, 5), -2), (("mine", 3, 0), -2),
                             (("mine", BIGGEST, 5), -2), (("mine", 2, 0), -22), (("mine", 2, 10001), -22),
                             (("mine", 2, 5), -6)):
            self.assertEqual(last(*AT_WORK, call), answer, call)

    def test_somebody_in_the_cage_is_not_at_that_level(self):
        self.assertEqual(run(*AT_WORK, ("board", 0), ("mine", 1, 5), ("leave", 0), ("mine", 1, 5))[-4:], [1, -6, 0, 5])

    def test_the_cage_need_not_be_there(self):
        self.assertEqual(last(*AT_WORK, ("wind", 0), ("mine", 1, 5)), 5)

    def test_heaps_grow_each_by_itself(self):
        told = run(*AT_WORK, ("mine", 1, 7), ("mine", 1, 8), ("board", 0), ("wind", 2), ("leave", 0), ("mine", 2, 9),
                   ("mine", 1, 1), ("load", 10), ("load", 9), ("wind", 1), ("load", 16), ("load", 15))
        self.assertEqual(told[len(AT_WORK):], [7, 15, 1, 10, 0, 9, -6, -12, 9, 10, -12, 24])

    def test_the_most_that_is_ever_mined(self):
        # A thousand calls don't mine so much, so a shaft is made by hand.
        for mined, kilograms, answer in ((1999990000, 10000, 10000), (1999990001, 10000, -28), (2000000000, 1, -28),
                                         (1999999999, 1, 1)):
            shaft = Shaft(1, STRONGEST, 10)
            shaft.levels = [Level(0, 0, 0), Level(10, 0, 0), Level(20, 0, 0)]
            shaft.persons.append(Person(1, 0))
            shaft.mined = mined
            self.assertEqual(sh_mine(shaft, 2, kilograms), -6)
            self.assertEqual(sh_mine(shaft, 1, kilograms), answer, mined)
            self.assertEqual(shaft.mined, mined + max(0, answer))


class Loading(unittest.TestCase):
    def test_refusals_in_their_order(self):
        self.assertEqual(last(*AT_WORK, ("wind", 0), ("load", 0)), -16)
        self.assertEqual(last(*AT_WORK, ("wind", 0), ("load", 5)), -16)
        self.assertEqual(last(*AT_WORK, ("load", 0)), -22)
        self.assertEqual(last(*AT_WORK, ("load", 1)), -12)
        self.assertEqual(last(*AT_WORK, ("mine", 1, 3000), ("load", 3001)), -12)
        self.assertEqual(last(*AT_WORK, ("mine", 1, 3000), ("load", BIGGEST)), -12)
        self.assertEqual(last(*AT_WORK, ("mine", 1, 3001), ("load", 3001)), -28)

    def test_the_tub(self):
        there = (*AT_WORK, ("mine", 1, 10000))
        self.assertEqual(last(*there, ("load", 3000)), 3000)
        self.assertEqual(run(*there, ("load", 2000), ("load", 1001), ("load", 1000), ("load", 1))[-4:],
                         [2000, -28, 3000, -28])

    def test_loading_takes_from_the_heap(self):
        self.assertEqual(run(*AT_WORK, ("mine", 1, 10), ("load", 4), ("load", 7), ("load", 6), ("load", 1),
                             ("mine", 1, 5))[-6:], [10, 4, -12, 10, -12, 5])

    def test_the_heap_of_the_cages_level(self):
        self.assertEqual(run(*AT_WORK, ("mine", 1, 10), ("wind", 2), ("load", 1))[-1], -12)

    def test_a_rope_that_is_just_enough(self):
        # Worn 108,000; needed 100 times what hangs on it then and the one whom it takes.
        for rope, answer in ((216000 + 2000, 20), (216000 + 1999, -62)):
            told = run(("start", 2, rope, 10), *AT_WORK[1:], ("mine", 1, 50), ("load", 20), ("mine", 1, 1))
            self.assertEqual(told[-2], answer, rope)
            self.assertEqual(told[-1], 31 if answer == 20 else 51)

    def test_a_full_tub_is_told_ahead_of_safety(self):
        told = run(("start", 2, 216000, 10), *AT_WORK[1:], ("mine", 1, 9000), ("load", 3001), ("load", 3000), ("load", 1))
        self.assertEqual(told[-3:], [-28, -62, -62])


class Dumping(unittest.TestCase):
    def test_refusals_in_their_order(self):
        self.assertEqual(last(*AT_WORK, ("dump",)), -16)
        self.assertEqual(last(*AT_WORK, ("mine", 1, 5), ("load", 5), ("dump",)), -16)
        self.assertEqual(last(*AT_WORK, ("wind", 0), ("dump",)), -6)

    def test_the_bin(self):
        told = run(*AT_WORK, ("mine", 1, 100), ("load", 30), ("load", 10), ("wind", 0), ("dump",), ("dump",),
                   ("wind", 1), ("load", 60), ("wind", 0), ("dump",), ("wind", 1), ("load", 1))
        self.assertEqual(told[len(AT_WORK):], [100, 30, 40, 10, 40, -6, 10, 60, 10, 100, 10, -12])

    def test_the_tub_is_empty_then(self):
        told = run(*AT_WORK, ("mine", 1, 6000), ("load", 3000), ("wind", 0), ("dump",), ("wind", 1), ("load", 3000))
        self.assertEqual(told[-1], 3000)


if __name__ == "__main__":
    unittest.main()
