"""Point 10: sh_may, sh_ore and sh_doors."""

import unittest

from driver import BIGGEST, STRONGEST, asked, last, questions, run, told, wait_till

TWO_LEVELS = (("level", 100, 7, 0), ("level", 250, 0, 0), ("hire",), ("hire",))


class May(unittest.TestCase):
    def test_by_how_much_the_rope_would_wear(self):
        there = (("start", 2, STRONGEST, 10), *TWO_LEVELS)
        self.assertEqual(run(*there, ("may", 1), ("may", 2))[-2:], [100000, 250000])
        self.assertEqual(run(*there, ("board", 0), ("may", 1), ("board", 1), ("may", 1))[-3:], [108000, 2, 116000])

    def test_between_levels_and_up(self):
        there = (("start", 2, STRONGEST, 10), *TWO_LEVELS, ("board", 0), ("wind", 2), ("leave", 0), ("mine", 2, 500),
                 ("load", 500))
        self.assertEqual(run(*there, ("may", 0), ("may", 1))[-2:], [250 * 1500, 150 * 1500])
        self.assertEqual(run(*there, ("wind", 1), ("may", 2), ("may", 0))[-2:], [150 * 1500, 100 * 1500])

    def test_there_is_none(self):
        there = (("start", 2, STRONGEST, 10), *TWO_LEVELS)
        for l in (3, 9, BIGGEST):
            self.assertEqual(asked(*there, ("may", l)), [-2], l)

    def test_it_is_there(self):
        there = (("start", 2, STRONGEST, 10), *TWO_LEVELS)
        self.assertEqual(asked(*there, ("may", 0)), [-17])
        self.assertEqual(run(*there, ("wind", 2), ("may", 2), ("may", 0))[-2:], [-17, 250000])
        # Told ahead of safety.
        self.assertEqual(run(("start", 1, 0, 1), ("level", 1, 0, 0), ("may", 0), ("may", 1))[-2:], [-17, -62])

    def test_it_would_not_be_safe(self):
        for rope, answer in ((216000, 108000), (215999, -62)):
            there = (("start", 2, rope, 10), *TWO_LEVELS, ("board", 0))
            self.assertEqual(last(*there, ("may", 1)), answer, rope)
            self.assertEqual(last(*there, ("wind", 1)), 10 if answer > 0 else -62, rope)
            self.assertEqual(last(*there, ("may", 2)), -62, rope)

    def test_safe_for_those_who_stay_too(self):
        # One at level 2, 250 metres deep: down with 1,080, up with 1,000, and one group.
        for rope, answer in ((520000 + 520000, 250000), (520000 + 519999, -62)):
            there = (("start", 2, rope, 10), *TWO_LEVELS, ("board", 0), ("wind", 2), ("leave", 0))
            self.assertEqual(last(*there, ("may", 0)), answer, rope)

    def test_nothing_has_changed_afterwards(self):
        for rope in (300000, 10000000):
            there = (("start", 2, rope, 10), *TWO_LEVELS, ("wait", 3), ("lock",), ("board", 0), ("back",))
            asking = questions(2, 2)
            plain = told(*there, *asking)[len(there):]
            found = told(*there, ("may", 1), ("may", 2), ("may", 0), ("may", 3), *asking)[len(there) + 4:]
            self.assertEqual(found, plain, rope)
            self.assertEqual(run(*there, ("may", 1), ("again",))[-1], 0, rope)

    def test_the_minute_does_not_matter(self):
        late = (("start", 1, STRONGEST, 1), ("level", 1001, 0, 0), *wait_till(999000))
        self.assertEqual(run(*late, ("wind", 1), ("may", 1))[-2:], [-75, 1001000])
        weak = (("start", 1, 2001999, 1), ("level", 1001, 0, 0), *wait_till(999000))
        self.assertEqual(run(*weak, ("wind", 1), ("may", 1))[-2:], [-62, -62])


class Ore(unittest.TestCase):
    def test_none(self):
        self.assertEqual(asked(("start", 1, 0, 1), ("ore",)), [0, 0, 0, 0])

    def test_through_mining_loading_and_dumping(self):
        found = told(("start", 2, STRONGEST, 10), *TWO_LEVELS, ("board", 0), ("board", 1), ("wind", 1), ("leave", 0),
                     ("mine", 1, 500), ("ore",), ("load", 120), ("ore",), ("wind", 2), ("leave", 1), ("mine", 2, 60),
                     ("ore",), ("load", 60), ("ore",), ("wind", 0), ("ore",), ("dump",), ("ore",), ("wind", 1),
                     ("load", 380), ("ore",), ("wind", 0), ("dump",), ("ore",), ("mine", 2, 1), ("ore",))
        self.assertEqual([answer for answer in found if len(answer) == 4], [
            [0, 0, 500, 500], [0, 120, 380, 500], [0, 120, 440, 560], [0, 180, 380, 560], [0, 180, 380, 560],
            [180, 0, 380, 560], [180, 380, 0, 560], [560, 0, 0, 560], [560, 0, 1, 561]])

    def test_refused_mining_is_no_mining(self):
        there = (("start", 2, STRONGEST, 10), *TWO_LEVELS)
        self.assertEqual(told(*there, ("mine", 1, 5), ("ore",), ("load", 5), ("dump",), ("ore",))[-4::3],
                         [[0, 0, 0, 0], [0, 0, 0, 0]])


class Doors(unittest.TestCase):
    def test_none(self):
        self.assertEqual(asked(("start", 1, 0, 1), ("doors",)), [0, 0, 0])

    def test_shut_at_first(self):
        self.assertEqual(asked(("start", 1, 0, 1), ("lock",), ("lock",), ("doors",)), [2, 0, 0])

    def test_as_bits(self):
        there = (("start", 1, 0, 1), *[("lock",)] * 4)
        found = told(*there, ("open", 1, 0), ("doors",), ("open", 3, 1), ("doors",), ("open", 0, 0), ("doors",),
                     ("open", 2, 1), ("doors",), ("shut", 1, 0), ("doors",), ("open", 1, 1), ("doors",),
                     ("shut", 3, 1), ("doors",))
        self.assertEqual(found[len(there) + 1::2], [
            [4, 2, 0], [4, 2, 8], [4, 3, 8], [4, 3, 12], [4, 1, 12], [4, 1, 14], [4, 1, 6]])

    def test_never_both(self):
        there = (("start", 1, 0, 1), ("lock",), ("open", 0, 0))
        self.assertEqual(told(*there, ("open", 0, 1), ("doors",))[-2:], [[-16], [1, 1, 0]])


if __name__ == "__main__":
    unittest.main()
