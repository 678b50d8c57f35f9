"""Point 1: sh_start, and what there's none of."""

import unittest

from driver import BIGGEST, STRONGEST, last, run
from mineshaft.shaft import answers


class Edges(unittest.TestCase):
    def test_room(self):
        for room, answer in ((0, -22), (1, 0), (8, 0), (9, -22), (BIGGEST, -22)):
            self.assertEqual(last(("start", room, 1000, 10)), answer, room)

    def test_rope(self):
        for rope, answer in ((0, 0), (1, 0), (STRONGEST, 0), (STRONGEST + 1, -22), (BIGGEST, -22)):
            self.assertEqual(last(("start", 4, rope, 10)), answer, rope)

    def test_speed(self):
        for speed, answer in ((0, -22), (1, 0), (1000, 0), (1001, -22), (BIGGEST, -22)):
            self.assertEqual(last(("start", 4, 1000, speed)), answer, speed)

    def test_the_form_of_the_answers(self):
        self.assertEqual(answers([0, 0, 5, 5]), [1, -22])
        self.assertEqual(answers([0, 1, 5, 5, 2, 2, 6, 7]), [1, 0, 1, 0, 1, 1, 1, 7])


# Leaves something of everything that a start must make new.
BUSY = (("start", 1, 10000000, 10), ("level", 100, 7, 9), ("level", 200, 7, 9), ("fan", 2, 1),
        ("hire",), ("hire",), ("board", 0), ("wind", 1), ("leave", 0),
        ("mine", 1, 900), ("load", 300), ("wind", 0), ("dump",), ("wind", 1), ("load", 200),
        ("board", 0), ("lock",), ("open", 0, 1), ("wait", 5))


class Again(unittest.TestCase):
    def test_refused_ahead_of_the_first_good_one(self):
        self.assertEqual(
            run(("start", 0, 5, 5), ("start", 1, 5, 0), ("start", 1, 5, 5), ("hire",)),
            [-22, -22, 0, 0])

    def test_refused_later_on_all_stays(self):
        for refused in (("start", 9, 0, 1), ("start", 1, STRONGEST + 1, 1), ("start", 2, 5, 1001)):
            follow = (("wait", 1), ("hire",), ("level", 200, 0, 0), ("level", 300, 0, 0), ("fan", 1, 0),
                      ("fan", 2, 1), ("fan", 1, 1), ("mine", 1, 1), ("load", 5), ("board", 0), ("lock",),
                      ("open", 0, 0), ("shut", 0, 1), ("wind", 0), ("board", 1), ("leave", 0),
                      ("dump",), ("rope", 7))
            plain = run(*BUSY, *follow)
            self.assertEqual(run(*BUSY, refused, *follow), plain[:len(BUSY)] + [-22] + plain[len(BUSY):])

    def test_a_second_good_one_makes_all_new(self):
        follow = (("board", 0), ("wind", 1), ("fan", 1, 1), ("open", 0, 0), ("dump",), ("rope", 3000000),
                  ("wait", 1), ("lock",), ("shut", 0, 1), ("level", 50, 4, 1), ("fan", 1, 0),
                  ("hire",), ("hire",), ("board", 0), ("board", 1), ("wind", 1), ("leave", 0), ("fan", 1, 1),
                  ("load", 1), ("mine", 1, 10), ("load", 10), ("wind", 0), ("dump",), ("rope", 0))
        fresh = run(("start", 3, 500000, 25), *follow)
        self.assertEqual(run(*BUSY, ("start", 3, 500000, 25), *follow)[len(BUSY):], fresh)
        self.assertEqual(fresh[1:7], [-2, -2, -2, -2, -6, 0])
        self.assertEqual(fresh[7:11], [1, 0, -17, 1])

    def test_a_second_good_one_sets_room_rope_and_speed(self):
        told = run(("start", 1, 0, 1), ("start", 2, 232000, 50), ("level", 100, 0, 0), ("hire",), ("hire",),
                   ("hire",), ("board", 0), ("board", 1), ("board", 2), ("wind", 1))
        self.assertEqual(told[6:], [1, 2, -28, 2])


class ThereIsNone(unittest.TestCase):
    def setUp(self):
        self.one_of_each = (("start", 2, 1000000, 10), ("level", 10, 0, 0), ("hire",), ("lock",))

    def test_beyond_the_last(self):
        # Persons and locks are numbered from 0, levels from 1.
        for beyond in (1, 2, BIGGEST):
            for call in (("board", beyond), ("leave", beyond), ("where", beyond), ("open", beyond, 0),
                         ("shut", beyond, 0)):
                self.assertEqual(last(*self.one_of_each, call), -2, call)
        for beyond in (2, 3, BIGGEST):
            for call in (("wind", beyond), ("fan", beyond, 1), ("mine", beyond, 1), ("who", beyond), ("gas", beyond),
                         ("may", beyond)):
                self.assertEqual(last(*self.one_of_each, call), -2, call)

    def test_the_last_is_there(self):
        for call, answer in ((("board", 0), 1), (("leave", 0), -16), (("wind", 1), 1), (("fan", 1, 1), 0),
                             (("mine", 1, 1), -6), (("open", 0, 0), 0), (("shut", 0, 0), -17),
                             (("where", 0), 0), (("who", 1), 0), (("gas", 1), 0), (("may", 1), 10000)):
            self.assertEqual(last(*self.one_of_each, call), answer, call)

    def test_level_0_counts_only_for_wind_who_and_may(self):
        self.assertEqual(run(*self.one_of_each, ("wind", 0), ("may", 0), ("who", 0))[-3:], [-17, -17, 1])
        self.assertEqual(run(*self.one_of_each, ("wind", 1), ("may", 0), ("wind", 0))[-2:], [10000, 1])
        for call in (("fan", 0, 1), ("mine", 0, 1), ("gas", 0)):
            self.assertEqual(last(*self.one_of_each, call), -2, call)

    def test_it_is_looked_at_first(self):
        for call in (("fan", 0, 2), ("fan", 2, 2), ("mine", 0, 0), ("mine", 2, 10001), ("open", 1, 2), ("shut", 1, 2)):
            self.assertEqual(last(*self.one_of_each, call), -2, call)


if __name__ == "__main__":
    unittest.main()
