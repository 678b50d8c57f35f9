"""Point 8: sh_need and sh_next."""

import unittest

from driver import STRONGEST, asked, told, told_step

ROPE = 5000000


def brought(level, *persons):
    """Calls that bring these from above ground to a level, and the empty cage up again."""
    return (*[("board", p) for p in persons], ("wind", level), *[("leave", p) for p in persons], ("wind", 0))


def shaft(room, *further):
    """100, 200 and 300 metres deep, with seven persons."""
    return (("start", room, ROPE, 10), ("level", 100, 0, 0), ("level", 200, 0, 0), ("level", 300, 0, 0),
            *[("hire",)] * 7, *further)


class Need(unittest.TestCase):
    def test_at_first(self):
        self.assertEqual(asked(("start", 1, 0, 1), ("need",)), [0, 0, 0, 0])
        self.assertEqual(asked(("start", 1, STRONGEST, 1), ("need",)), [0, 0, 0, STRONGEST])

    def test_above_ground_with_nobody_below(self):
        self.assertEqual(asked(*shaft(2), ("board", 0), ("need",)), [0, 0, 0, ROPE])

    def test_below_ground_with_nobody_below(self):
        self.assertEqual(asked(*shaft(2), ("wind", 2), ("need",)), [1, 200000, 200000, ROPE])
        self.assertEqual(asked(*shaft(2), ("board", 0), ("wind", 2), ("need",)), [1, 216000, 216000, ROPE])

    def test_above_ground_with_one_group(self):
        # Worn: down with two and up with nobody.
        self.assertEqual(asked(*shaft(2, *brought(2, 0, 1)), ("need",)), [1, 200 * 2160, 432000, ROPE])

    def test_more_below_than_the_cage_has_room_for(self):
        # Two at level 3, one at level 2, two at level 1; room for two: 3 and 3, 2 and 1, 1.
        there = shaft(2, *brought(1, 0, 1), *brought(3, 2, 3), *brought(2, 4))
        worn = 100 * 2160 + 300 * 2160 + 200 * 2080
        self.assertEqual(asked(*there, ("need",)), [3, 300 * 2160 + 200 * 2160 + 100 * 2080, worn, ROPE])

    def test_the_cage_takes_those_at_its_level_and_above_it(self):
        # Room for three: at level 2 it takes those at 2 and 1, and the one at 3 is fetched.
        there = shaft(3, *brought(1, 0), *brought(2, 1), *brought(3, 2), ("wind", 2))
        worn = 100 * 2080 + 200 * 2080 + 300 * 2080 + 200 * 1000
        self.assertEqual(asked(*there, ("need",)), [2, 200 * 1160 + 300 * 2080, worn, ROPE])

    def test_some_deeper_and_some_above_who_find_no_room(self):
        # Room for one: at level 2 it takes the one there; 3 and 1 are a group each.
        there = shaft(1, *brought(1, 0), *brought(2, 1), *brought(3, 2), ("wind", 2))
        worn = 100 * 2080 + 200 * 2080 + 300 * 2080 + 200 * 1000
        self.assertEqual(asked(*there, ("need",)), [3, 200 * 1080 + 300 * 2080 + 100 * 2080, worn, ROPE])

    def test_those_who_stay_are_grouped_together_whether_deeper_or_above(self):
        # Room for two, at level 2 with two there: 3 and 1 are one group.
        there = shaft(2, *brought(1, 0), *brought(2, 1, 2), *brought(3, 3), ("wind", 2))
        worn = 100 * 2080 + 200 * 2160 + 300 * 2080 + 200 * 1000
        self.assertEqual(asked(*there, ("need",)), [2, 200 * 1160 + 300 * 2160, worn, ROPE])

    def test_a_full_cage(self):
        there = shaft(2, *brought(1, 0), ("board", 1), ("board", 2), ("wind", 1))
        worn = 100 * 2080 + 100 * 1160
        self.assertEqual(asked(*there, ("need",)), [2, 100 * 1160 + 100 * 2080, worn, ROPE])
        # With one out there's room for one of the two who are there then.
        self.assertEqual(asked(*there, ("leave", 1), ("need",)), [2, 100 * 1160 + 100 * 2080, worn, ROPE])

    def test_a_cage_with_room_for_one_more(self):
        there = shaft(2, *brought(1, 0), *brought(1, 1), ("board", 2), ("wind", 1))
        worn = 2 * 100 * 2080 + 100 * 1080
        self.assertEqual(asked(*there, ("need",)), [2, 100 * 1160 + 100 * 2080, worn, ROPE])

    def test_ore_in_the_tub(self):
        there = shaft(2, ("board", 0), ("wind", 1), ("leave", 0), ("mine", 1, 700), ("load", 700))
        self.assertEqual(asked(*there, ("need",)), [1, 100 * 1780, 108000, ROPE])
        self.assertEqual(asked(*there, ("wind", 0), ("need",)), [1, 100 * 2080, 108000 + 170000, ROPE])

    def test_a_new_rope(self):
        self.assertEqual(asked(*shaft(1, ("wind", 1), ("wind", 0), ("rope", 77)), ("need",)), [0, 0, 0, 77])

    def test_the_way_up_takes_so_often_and_no_more_than_needed(self):
        for room in (1, 2, 3, 7):
            calls = list(shaft(room, *brought(1, 0), *brought(3, 1), *brought(2, 2), *brought(2, 3), ("board", 4),
                               ("wind", 2)))
            times, need, worn, rope = asked(*calls, ("need",))
            ups = 0
            step = told_step(asked(*calls, ("next",)))
            while step is not None:
                ups += step == ("wind", 0)
                calls.append(step)
                step = told_step(asked(*calls, ("next",)))
            self.assertEqual(ups, times, room)
            afterwards = asked(*calls, ("need",))
            self.assertEqual(afterwards[:2], [0, 0], room)
            self.assertLessEqual(afterwards[2], worn + need, room)

    def test_it_is_just_what_the_way_up_takes_if_all_are_at_one_level(self):
        calls = shaft(2, *brought(2, 0, 1), *brought(2, 2))
        times, need, worn, rope = asked(*calls, ("need",))
        upwards = (("wind", 2), ("board", 0), ("board", 1), ("wind", 0), ("leave", 0), ("leave", 1), ("wind", 2),
                   ("board", 2), ("wind", 0), ("leave", 2))
        self.assertEqual(asked(*calls, *upwards, ("need",)), [0, 0, worn + need, rope])


class Next(unittest.TestCase):
    def test_there_is_none(self):
        self.assertEqual(asked(("start", 1, 0, 1), ("next",)), [-6])
        self.assertEqual(asked(*shaft(2), ("next",)), [-6])
        self.assertEqual(asked(*shaft(2, *brought(1, 0), ("wind", 1), ("board", 0), ("wind", 0), ("leave", 0)),
                               ("next",)), [-6])

    def test_above_ground_the_least_in_the_cage_leaves_it(self):
        there = shaft(3, *brought(1, 0), ("board", 5), ("board", 2), ("board", 4))
        found = told(*there, ("next",), ("leave", 2), ("next",), ("leave", 4), ("next",), ("leave", 5), ("next",))
        self.assertEqual(found[-7::2], [[1, 2], [1, 4], [1, 5], [2, 1]])

    def test_above_ground_the_tub_is_dumped_when_nobody_is_in_the_cage(self):
        there = shaft(2, ("board", 1), ("board", 0), ("wind", 1), ("leave", 0), ("mine", 1, 9), ("load", 9), ("wind", 0))
        found = told(*there, ("next",), ("leave", 1), ("next",), ("dump",), ("next",))
        self.assertEqual(found[-5::2], [[1, 1], [3, 0], [2, 1]])

    def test_above_ground_the_tub_is_dumped_though_nobody_is_below(self):
        there = shaft(2, ("board", 0), ("wind", 1), ("leave", 0), ("mine", 1, 9), ("load", 1), ("board", 0), ("wind", 0),
                      ("leave", 0))
        self.assertEqual(told(*there, ("next",), ("dump",), ("next",))[-3::2], [[3, 0], [-6]])

    def test_above_ground_it_is_wound_to_the_deepest(self):
        self.assertEqual(asked(*shaft(2, *brought(2, 0), *brought(1, 1)), ("next",)), [2, 2])
        self.assertEqual(asked(*shaft(2, *brought(2, 1), *brought(3, 0)), ("next",)), [2, 3])

    def test_below_ground_the_least_at_its_level_boards(self):
        there = shaft(2, *brought(2, 6, 3), *brought(2, 5), *brought(1, 0), ("wind", 2))
        found = told(*there, ("next",), ("board", 3), ("next",), ("board", 5), ("next",))
        self.assertEqual(found[-5::2], [[0, 3], [0, 5], [2, 0]])

    def test_the_least_who_has_just_left_boards_again(self):
        there = shaft(2, *brought(2, 6, 3), ("board", 0), ("wind", 2))
        self.assertEqual(told(*there, ("next",), ("leave", 0), ("next",))[-3::2], [[0, 3], [0, 0]])

    def test_below_ground_it_is_wound_to_the_deepest_whom_it_takes(self):
        there = shaft(3, *brought(1, 0), *brought(2, 1), ("wind", 3))
        found = told(*there, ("next",), ("wind", 2), ("next",), ("board", 1), ("next",), ("wind", 1), ("next",),
                     ("board", 0), ("next",))
        self.assertEqual(found[-9::2], [[2, 2], [0, 1], [2, 1], [0, 0], [2, 0]])

    def test_below_ground_those_deeper_wait(self):
        # Nobody at its level or above: up, and down to them from there.
        there = shaft(3, *brought(3, 0), ("wind", 1))
        self.assertEqual(told(*there, ("next",), ("wind", 0), ("next",))[-3::2], [[2, 0], [2, 3]])
        # Somebody above it: they are taken first.
        self.assertEqual(asked(*shaft(3, *brought(3, 0), *brought(1, 1), ("wind", 2)), ("next",)), [2, 1])

    def test_a_full_cage_takes_nobody(self):
        self.assertEqual(asked(*shaft(1, *brought(1, 0), ("board", 1), ("wind", 1)), ("next",)), [2, 0])
        self.assertEqual(asked(*shaft(1, *brought(1, 0), ("board", 1), ("wind", 2)), ("next",)), [2, 0])

    def test_below_ground_with_nobody_below(self):
        self.assertEqual(asked(*shaft(2, ("wind", 3)), ("next",)), [2, 0])
        self.assertEqual(asked(*shaft(2, ("board", 0), ("wind", 3)), ("next",)), [2, 0])

    def test_ore_is_not_dumped_below_ground(self):
        there = shaft(1, ("board", 0), ("wind", 1), ("leave", 0), ("mine", 1, 9), ("load", 9))
        self.assertEqual(asked(*there, ("next",)), [0, 0])
        self.assertEqual(asked(*there, ("board", 0), ("next",)), [2, 0])


if __name__ == "__main__":
    unittest.main()
