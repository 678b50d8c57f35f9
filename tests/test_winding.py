"""Point 4: sh_wind, sh_wait and sh_fan, and what's needed to bring all up."""

import unittest

from driver import BIGGEST, STRONGEST, last, run, wait_till, worn_by

STRONG = ("start", 8, STRONGEST, 10)


def least_rope(room, calls):
    """The weakest rope with which none of the calls is refused as unsafe, found by halving."""
    low, high = 0, STRONGEST
    while low < high:
        rope = (low + high) // 2
        if -62 in run(("start", room, rope, 10), *calls):
            low = rope + 1
        else:
            high = rope
    return low


class Winding(unittest.TestCase):
    def test_minutes_are_rounded_up(self):
        for depth, speed, minutes in ((100, 100, 1), (101, 100, 2), (99, 100, 1), (1, 1000, 1), (2000, 1, 2000),
                                      (2000, 3, 667), (90, 30, 3), (91, 30, 4)):
            told = run(("start", 1, STRONGEST, speed), ("level", depth, 0, 0), ("wind", 1), ("wind", 0), ("wait", 1))
            self.assertEqual(told[2:], [minutes, minutes, 2 * minutes + 1], (depth, speed))

    def test_between_levels(self):
        told = run(STRONG, ("level", 100, 0, 0), ("level", 250, 0, 0), ("wind", 2), ("wind", 1), ("wind", 2), ("wind", 0))
        self.assertEqual(told[3:], [25, 15, 15, 25])

    def test_wear(self):
        there = (STRONG, ("level", 100, 0, 0), ("level", 250, 0, 0), ("hire",), ("hire",))
        self.assertEqual(worn_by(*there, ("wind", 1), ("wind", 0)), 200000)
        self.assertEqual(worn_by(*there, ("wind", 2), ("wind", 1), ("wind", 2), ("wind", 0)), 800000)
        self.assertEqual(worn_by(*there, ("board", 1), ("wind", 2), ("wind", 0)), 540000)
        self.assertEqual(worn_by(*there, ("board", 1), ("board", 0), ("wind", 1), ("wind", 0)), 232000)

    def test_wear_with_ore_and_somebody_left_meanwhile(self):
        # Down with 1,080; up with 1,300; down with 1,000; up with 1,080: each over 10 metres.
        self.assertEqual(
            worn_by(STRONG, ("level", 10, 0, 0), ("hire",), ("board", 0), ("wind", 1), ("leave", 0), ("mine", 1, 300),
                    ("load", 300), ("wind", 0), ("dump",), ("wind", 1), ("board", 0), ("wind", 0)),
            10800 + 13000 + 10000 + 10800)

    def test_refusals(self):
        there = (STRONG, ("level", 100, 0, 0))
        for call, answer in ((("wind", 2), -2), (("wind", BIGGEST), -2), (("wind", 0), -17)):
            self.assertEqual(last(*there, call), answer, call)
        self.assertEqual(last(*there, ("wind", 1), ("wind", 1)), -17)

    def test_where_it_is_is_told_ahead_of_safety(self):
        self.assertEqual(run(("start", 1, 0, 1), ("level", 1, 0, 0), ("wind", 0), ("wind", 1)), [0, 1, -17, -62])

    def test_a_refused_winding_changes_nothing(self):
        told = run(("start", 1, 199999, 10), ("level", 100, 5, 0), ("wind", 1), ("dump",), ("wait", 1), ("fan", 1, 1),
                   ("rope", 200000), ("wind", 1))
        self.assertEqual(told[2:], [-62, -6, 1, 5, 0, 10])

    def test_gas_comes_while_it_is_wound(self):
        told = run(STRONG, ("level", 100, 7, 20), ("wind", 1), ("fan", 1, 1), ("wind", 0), ("fan", 1, 0))
        self.assertEqual(told[2:], [10, 70, 10, 0])


class Safety(unittest.TestCase):
    def assert_least(self, room, rope, calls):
        """The last of the calls is refused by a rope that is one weaker, and none with that one."""
        self.assertNotIn(-62, run(("start", room, rope, 10), *calls))
        self.assertEqual(last(("start", room, rope - 1, 10), *calls), -62)

    def setUp(self):
        self.two_levels = (("level", 100, 0, 0), ("level", 200, 0, 0))

    def test_the_empty_cage(self):
        self.assert_least(1, 200000, (*self.two_levels, ("wind", 1)))
        self.assert_least(1, 400000, (*self.two_levels, ("wind", 2)))

    def test_persons_in_the_cage(self):
        self.assert_least(3, 2 * 100 * 1240, (
            *self.two_levels, ("hire",), ("hire",), ("hire",), ("hire",), ("board", 0), ("board", 1), ("board", 3),
            ("wind", 1)))

    def test_those_above_ground_and_in_the_cage_above_ground_need_nothing(self):
        self.assertEqual(last(("start", 2, 0, 1), ("hire",), ("hire",), ("board", 0), ("leave", 0)), 0)

    def left_at(self, level, *persons):
        boarding = [("board", p) for p in persons]
        leaving = [("leave", p) for p in persons]
        return (*boarding, ("wind", level), *leaving)

    def test_one_who_stays_is_fetched(self):
        # Worn: 108,000 down and 100,000 up; one group needs 100 times 2,080.
        self.assert_least(4, 208000 + 208000, (*self.two_levels, ("hire",), *self.left_at(1, 0), ("wind", 0)))

    def test_it_takes_those_at_its_level(self):
        # Worn: 108,000 down, 100,000 up, 100,000 down; then it takes them: 108,000.
        calls = (*self.two_levels, ("hire",), *self.left_at(1, 0), ("wind", 0), ("wind", 1))
        self.assertEqual(least_rope(4, calls), 416000)

    def test_it_does_not_take_those_deeper(self):
        # Worn: 216,000 down, 100,000 up; needed: 100 times 1,000 and 200 times 2,080.
        self.assert_least(4, 316000 + 100000 + 416000, (*self.two_levels, ("hire",), *self.left_at(2, 0), ("wind", 1)))

    def test_it_takes_those_above_it(self):
        # Worn: 108,000 down, 100,000 further down; needed: 200 times 1,080.
        self.assert_least(4, 208000 + 216000, (*self.two_levels, ("hire",), *self.left_at(1, 0), ("wind", 2)))

    def test_it_takes_the_deepest_as_many_as_it_has_room_for(self):
        # Two are at level 2 and one at level 1, there's room for two.
        calls = (*self.two_levels, ("hire",), ("hire",), ("hire",), *self.left_at(2, 0, 1), ("wind", 0),
                 *self.left_at(1, 2))
        # Worn 232,000, 200,000 and 108,000; needed at level 1: 100 times 1,080 and 200 times 2,160.
        self.assertEqual(least_rope(2, calls), 540000 + 108000 + 432000)
        # At level 2, worn by 100,000 more: it takes the two there, and the other is a group.
        self.assertEqual(least_rope(2, (*calls, ("wind", 2))), max(1080000, 640000 + 232000 + 208000))
        # Above ground: the two deepest are a group, the other is the last one.
        self.assert_least(2, 640000 + 432000 + 208000, (*calls, ("wind", 0)))

    def test_those_in_the_cage_count_for_its_room(self):
        # Two are at level 1 and one in the cage, with room for two: it takes one of the two.
        calls = (*self.two_levels, ("hire",), ("hire",), ("hire",), *self.left_at(1, 0, 1), ("wind", 0),
                 ("board", 2), ("wind", 1))
        # Worn 116,000, 100,000, 108,000; needed: 100 times 1,160 and 100 times 2,080.
        self.assert_least(2, 324000 + 116000 + 208000, calls)
        # A full cage takes nobody: worn by 116,000 more to level 2, needed 200 times 1,160 and 208,000.
        self.assert_least(2, 324000 + 116000 + 232000 + 208000, (*calls, ("board", 0), ("wind", 2)))

    def test_groups_of_as_many_as_it_has_room_for(self):
        # Five at one level with room for two are three groups, the last one of one.
        calls = [("level", 100, 0, 0)] + [("hire",)] * 5
        calls += [*self.left_at(1, 0, 1), ("wind", 0), *self.left_at(1, 2, 3), ("wind", 0)]
        calls += [*self.left_at(1, 4), ("wind", 0)]
        worn = 116000 * 2 + 108000 + 300000
        self.assert_least(2, worn + 216000 * 2 + 208000, tuple(calls))

    def test_a_group_is_as_deep_as_its_deepest(self):
        # One at each level, with room for both: one group, 200 times 2,160.
        calls = (*self.two_levels, ("hire",), ("hire",), *self.left_at(2, 0), ("wind", 0), *self.left_at(1, 1), ("wind", 0))
        worn = 216000 + 200000 + 108000 + 100000
        self.assert_least(2, worn + 432000, calls)

    def test_ore_in_the_tub_hangs_on_the_rope(self):
        calls = (("level", 100, 0, 0), ("level", 110, 0, 0), ("hire",), *self.left_at(1, 0), ("mine", 1, 3000),
                 ("load", 3000))
        # Worn 108,000; needed 100 times 4,080.
        self.assert_least(1, 108000 + 408000, calls)
        # Ten metres down with 4,000 on the rope; needed 110 times 4,080.
        self.assert_least(1, 108000 + 40000 + 448800, (*calls, ("wind", 2)))


class LatestMinute(unittest.TestCase):
    def at_minute_999000(self, rope, depth):
        return (("start", 1, rope, 1), ("level", depth, 0, 0), *wait_till(999000))

    def test_winding_till_minute_1000000(self):
        self.assertEqual(last(*self.at_minute_999000(STRONGEST, 1000), ("wind", 1)), 1000)
        self.assertEqual(last(*self.at_minute_999000(STRONGEST, 1001), ("wind", 1)), -75)
        self.assertEqual(run(*self.at_minute_999000(STRONGEST, 1000), ("wind", 1), ("wind", 0), ("wait", 1))[-2:],
                         [-75, -75])

    def test_a_late_winding_is_not_made(self):
        told = run(*self.at_minute_999000(STRONGEST, 1001), ("wind", 1), ("dump",), ("rope", 5))
        self.assertEqual(told[-3:], [-75, -6, 0])

    def test_safety_is_told_ahead_of_lateness(self):
        self.assertEqual(last(*self.at_minute_999000(2002000, 1001), ("wind", 1)), -75)
        self.assertEqual(last(*self.at_minute_999000(2001999, 1001), ("wind", 1)), -62)

    def test_waiting_till_minute_999000(self):
        there = (STRONG, *wait_till(998999))
        self.assertEqual(run(*there, ("wait", 2), ("wait", 1), ("wait", 1))[-3:], [-75, 999000, -75])
        self.assertEqual(last(*there, ("wait", 1440)), -75)

    def test_wrong_is_told_ahead_of_lateness(self):
        self.assertEqual(run(STRONG, *wait_till(999000), ("wait", 0), ("wait", 1441), ("wait", 1440))[-3:],
                         [-22, -22, -75])

    def test_the_most_gas(self):
        told = last(("start", 1, STRONGEST, 1), ("level", 1000, 2000, 0), *wait_till(999000), ("wind", 1), ("fan", 1, 1))
        self.assertEqual(told, 2000000000)


class Waiting(unittest.TestCase):
    def test_edges(self):
        for minutes, answer in ((0, -22), (1, 1), (1440, 1440), (1441, -22), (BIGGEST, -22)):
            self.assertEqual(last(STRONG, ("wait", minutes)), answer, minutes)

    def test_which_minute_it_is(self):
        self.assertEqual(run(STRONG, ("wait", 3), ("wait", 0), ("wait", 4)), [0, 3, -22, 7])


class Fans(unittest.TestCase):
    def test_refusals_in_their_order(self):
        there = (STRONG, ("level", 10, 3, 5))
        for call, answer in ((("fan", 2, 2), -2), (("fan", 0, 1), -2), (("fan", 1, 2), -22), (("fan", 1, BIGGEST), -22),
                             (("fan", 1, 0), -17), (("fan", 1, 1), 0)):
            self.assertEqual(last(*there, call), answer, call)
        self.assertEqual(run(*there, ("fan", 1, 1), ("fan", 1, 1), ("fan", 1, 0), ("fan", 1, 0))[2:], [0, -17, 0, -17])

    def test_gas_rises_and_falls(self):
        told = run(STRONG, ("level", 10, 300, 350), ("wait", 10), ("fan", 1, 1), ("wait", 20), ("fan", 1, 0),
                   ("wait", 1), ("fan", 1, 1))
        self.assertEqual(told[2:], [10, 3000, 30, 2000, 31, 2300])

    def test_gas_falls_no_lower_than_0(self):
        told = run(STRONG, ("level", 10, 300, 5000), ("wait", 2), ("fan", 1, 1), ("wait", 1440), ("fan", 1, 0),
                   ("wait", 1), ("fan", 1, 1))
        self.assertEqual(told[2:], [2, 600, 1442, 0, 1443, 300])

    def test_a_fan_that_clears_less_than_comes(self):
        told = run(STRONG, ("level", 10, 300, 299), ("fan", 1, 1), ("wait", 50), ("fan", 1, 0))
        self.assertEqual(told[2:], [0, 50, 50])

    def test_each_level_by_itself(self):
        told = run(STRONG, ("level", 10, 1, 1), ("level", 20, 2, 1), ("fan", 2, 1), ("wait", 10), ("fan", 1, 1),
                   ("fan", 2, 0))
        self.assertEqual(told[3:], [0, 10, 10, 10])


if __name__ == "__main__":
    unittest.main()
