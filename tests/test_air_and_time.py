"""Point 9: sh_gas, sh_foul and sh_long."""

import unittest

from driver import BIGGEST, STRONGEST, asked, told, wait_till

START = ("start", 4, STRONGEST, 10)


def gas(rate, clear, *further):
    """What sh_gas answers of one level after further calls."""
    return asked(START, ("level", 10, rate, clear), *further, ("gas", 1))


class Gas(unittest.TestCase):
    def test_there_is_none(self):
        for l in (0, 2, 9, BIGGEST):
            self.assertEqual(asked(START, ("level", 10, 5, 5), ("gas", l)), [-2], l)
        self.assertEqual(asked(START, ("gas", 1)), [-2])

    def test_in_the_next_minute(self):
        self.assertEqual(gas(2000, 0, ("wait", 5)), [10000, 2])
        self.assertEqual(gas(1, 0, *wait_till(10000)), [10000, 2])

    def test_foul_now(self):
        self.assertEqual(gas(2000, 0, ("wait", 6)), [12000, 1])
        self.assertEqual(gas(1, 0, *wait_till(10001)), [10001, 1])

    def test_foul_now_though_its_fan_clears_it(self):
        self.assertEqual(gas(2000, 5000, ("wait", 6), ("fan", 1, 1)), [12000, 1])
        self.assertEqual(gas(2000, 5000, ("wait", 6), ("fan", 1, 1), ("wait", 1)), [9000, 0])
        self.assertEqual(gas(2000, 2000, ("wait", 6), ("fan", 1, 1), ("wait", 1)), [12000, 1])

    def test_in_some_minutes(self):
        self.assertEqual(gas(2000, 0), [0, 7])
        self.assertEqual(gas(2000, 0, ("wait", 1)), [2000, 6])
        # 300 a minute: 33 minutes make 9,900, 34 make 10,200.
        self.assertEqual(gas(300, 0), [0, 35])
        # 100 a minute: 100 minutes make just 10,000, which isn't foul.
        self.assertEqual(gas(100, 0), [0, 102])

    def test_in_just_1440_minutes(self):
        # 7 a minute: 1,429 minutes make 10,003.
        self.assertEqual(gas(7, 0), [0, 1430])
        # 1 a minute: from 8,561 on in 1,440, from 8,560 on in 1,441.
        self.assertEqual(gas(1, 0, *wait_till(8561)), [8561, 1441])
        self.assertEqual(gas(1, 0, *wait_till(8560)), [8560, 0])
        self.assertEqual(gas(1, 0, *wait_till(8562)), [8562, 1440])

    def test_never(self):
        self.assertEqual(gas(0, 0), [0, 0])
        self.assertEqual(gas(0, 5000, ("fan", 1, 1)), [0, 0])
        self.assertEqual(gas(2000, 2000, ("fan", 1, 1)), [0, 0])
        self.assertEqual(gas(2000, 2000, ("wait", 5), ("fan", 1, 1)), [10000, 0])
        self.assertEqual(gas(2000, 2001, ("wait", 5), ("fan", 1, 1)), [10000, 0])

    def test_with_the_fan_on_and_off(self):
        # 400 a minute more with the fan on, 1,000 with it off.
        self.assertEqual(gas(1000, 600), [0, 12])
        self.assertEqual(gas(1000, 600, ("fan", 1, 1)), [0, 27])
        self.assertEqual(gas(1000, 600, ("fan", 1, 1), ("fan", 1, 0)), [0, 12])
        self.assertEqual(gas(1000, 999, *wait_till(2), ("fan", 1, 1)), [2000, 0])

    def test_what_is_told_comes_true(self):
        for rate in (7, 9, 41, 137, 1000, 2000):
            minutes = gas(rate, 0)[1] - 1
            self.assertEqual(asked(START, ("level", 10, rate, 0), *wait_till(minutes - 1), ("foul",)), [0, 0], rate)
            self.assertEqual(asked(START, ("level", 10, rate, 0), *wait_till(minutes), ("foul",)), [1, 1], rate)

    def test_the_most(self):
        there = (("start", 1, STRONGEST, 1), ("level", 1000, 2000, 0), *wait_till(999000), ("wind", 1))
        self.assertEqual(asked(*there, ("gas", 1)), [2000000000, 1])


class Foul(unittest.TestCase):
    def test_none(self):
        self.assertEqual(asked(START, ("foul",)), [0, 0])
        self.assertEqual(asked(START, ("level", 10, 0, 0), ("wait", 1440), ("foul",)), [0, 0])

    def test_at_10000_and_10001_parts(self):
        there = (START, ("level", 10, 1, 0), *wait_till(10000))
        self.assertEqual(told(*there, ("foul",), ("wait", 1), ("foul",))[-3::2], [[0, 0], [1, 1]])

    def test_as_bits_from_level_1(self):
        levels = [("level", 10 * n, rate, 0) for n, rate in enumerate((9, 2000, 0, 1500, 5), start=1)]
        there = (START, *levels, ("wait", 6))
        self.assertEqual(asked(*there, ("foul",)), [1, 2])
        self.assertEqual(asked(*there, ("wait", 1), ("foul",)), [2, 2 + 8])
        self.assertEqual(asked(*there, ("wait", 1440), ("foul",)), [3, 1 + 2 + 8])
        self.assertEqual(asked(*there, *wait_till(2880), ("foul",)), [4, 1 + 2 + 8 + 16])

    def test_the_fan_clears_it(self):
        there = (START, ("level", 10, 2000, 2500), ("wait", 6), ("fan", 1, 1))
        self.assertEqual(told(*there, ("foul",), ("wait", 3), ("foul",), ("wait", 1), ("foul",))[-5::2],
                         [[1, 1], [1, 1], [0, 0]])


# Person 0 boards in minute 3 and stands at level 1 from minute 4 on, 1 boards in minute 15
# and stands there too, 2 is in the cage there since minute 15, 3 is above ground since minute 0.
GONE = (START, ("level", 10, 0, 0), *[("hire",)] * 4, ("wait", 3), ("board", 0), ("wind", 1), ("leave", 0), ("wind", 0),
        ("wait", 10), ("board", 1), ("board", 2), ("wind", 1), ("leave", 1), ("wait", 4))


class Long(unittest.TestCase):
    def test_the_minutes_of_these(self):
        self.assertEqual([asked(*GONE, ("where", p)) for p in range(4)], [[1, 3], [1, 15], [9, 15], [0, 0]])
        self.assertEqual(asked(*GONE, ("state",))[0], 20)

    def test_at_the_edge_of_n(self):
        for n, answer in ((0, [2, 3]), (1, [2, 3]), (5, [2, 3]), (6, [1, 1]), (17, [1, 1]), (18, [0, 0])):
            self.assertEqual(asked(*GONE, ("long", n)), answer, n)

    def test_n_above_the_running_minute(self):
        for n in (20, 21, BIGGEST):
            self.assertEqual(asked(*GONE, ("long", n)), [0, 0], n)

    def test_n_just_the_running_minute(self):
        there = (START, ("level", 10, 0, 0), ("hire",), ("board", 0), ("wind", 1), ("leave", 0))
        self.assertEqual(asked(*there, ("long", 1)), [1, 1])
        self.assertEqual(asked(*there, ("long", 2)), [0, 0])

    def test_those_above_ground_and_in_the_cage_do_not_count(self):
        there = (START, ("level", 10, 0, 0), ("hire",), ("hire",), ("board", 0), ("wind", 1), ("wait", 50))
        self.assertEqual(asked(*there, ("long", 0)), [0, 0])
        self.assertEqual(asked(*there, ("leave", 0), ("long", 0)), [1, 1])
        self.assertEqual(asked(*there, ("leave", 0), ("board", 0), ("long", 0)), [0, 0])

    def test_boarding_below_does_not_begin_it_anew(self):
        there = (*GONE, ("board", 0), ("leave", 0))
        self.assertEqual(asked(*there, ("long", 17)), [1, 1])

    def test_as_bits(self):
        calls = [START, ("level", 10, 0, 0)] + [("hire",)] * 24
        for p in (1, 22, 23):
            calls.append(("board", p))
        calls += [("wind", 1), ("leave", 23), ("leave", 1), ("leave", 22)]
        self.assertEqual(asked(*calls, ("long", 1)), [3, 2 + 2 ** 22 + 2 ** 23])


if __name__ == "__main__":
    unittest.main()
