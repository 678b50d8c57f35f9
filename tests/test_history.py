"""Point 1: what a change is, and that the last 30 can be taken back.

The calls that take back and do again aren't there yet, so what is kept for them is looked at itself.
"""

import unittest

from driver import NAMES, STRONGEST
from mineshaft.history import History
from mineshaft.shaft import answer_to
from mineshaft.state import copy_of_shaft


def said(history, *call):
    return answer_to(history, NAMES.index(call[0]), list(call[1:]))[0]


def shown(shaft):
    """All that a shaft holds, as plain values."""
    parts = dict(vars(shaft))
    parts["levels"] = [dict(vars(level)) for level in shaft.levels]
    parts["persons"] = [dict(vars(person)) for person in shaft.persons]
    parts["locks"] = [list(doors) for doors in shaft.locks]
    return parts


EVERY_CHANGE = (("level", 100, 40, 60), ("hire",), ("board", 0), ("wind", 1), ("leave", 0), ("wait", 9), ("fan", 1, 1),
                ("mine", 1, 500), ("load", 200), ("board", 0), ("wind", 0), ("dump",), ("rope", 700), ("lock",),
                ("open", 0, 1), ("shut", 0, 1))


class Copies(unittest.TestCase):
    def test_a_copy_holds_all_and_shares_nothing(self):
        history = History()
        said(history, "start", 2, STRONGEST, 30)
        for change in (*EVERY_CHANGE[:10], ("lock",), ("open", 0, 0)):
            said(history, *change)
        before = shown(history.shaft)
        self.assertEqual((before["mined"], before["tub"], before["cage"]), (500, 200, 1))
        twin = copy_of_shaft(history.shaft)
        self.assertEqual(shown(twin), before)
        twin.levels[1].ore += 1
        twin.persons[0].place = 0
        twin.locks[0][0] = False
        twin.levels.pop()
        twin.persons.pop()
        twin.locks.pop()
        self.assertEqual(shown(history.shaft), before)

    def test_all_is_as_at_first(self):
        history = History()
        for call in (("start", 2, STRONGEST, 30), *EVERY_CHANGE, ("start", 3, 8, 9)):
            said(history, *call)
        ground = {"depth": 0, "rate": 0, "clears": 0, "fan": 0, "gas": 0, "ore": 0}
        self.assertEqual(shown(history.shaft), {
            "room": 3, "rope": 8, "speed": 9, "worn": 0, "minute": 0, "levels": [ground], "persons": [], "cage": 0,
            "tub": 0, "dumped": 0, "mined": 0, "locks": []})


class Kept(unittest.TestCase):
    def setUp(self):
        self.history = History()
        said(self.history, "start", 2, STRONGEST, 30)

    def test_each_change_is_kept_as_it_was_ahead_of_it(self):
        self.assertEqual({change[0] for change in EVERY_CHANGE}, set(NAMES) - {"start"})
        seen = []
        for change in EVERY_CHANGE:
            seen.append(shown(self.history.shaft))
            self.assertGreaterEqual(said(self.history, *change), 0, change)
            self.assertNotEqual(shown(self.history.shaft), seen[-1], change)
            self.assertEqual([shown(shaft) for shaft in self.history.past], seen, change)

    def test_the_last_30(self):
        for minute in range(1, 36):
            said(self.history, "wait", 1)
            self.assertEqual(len(self.history.past), min(30, minute))
        self.assertEqual([shaft.minute for shaft in self.history.past], list(range(5, 35)))

    def test_a_refusal_is_no_change(self):
        said(self.history, "wait", 1)
        self.history.future = [self.history.shaft]
        before = shown(self.history.shaft)
        for refused in (("level", 0, 0, 0), ("board", 0), ("leave", 0), ("wind", 0), ("wait", 0), ("fan", 0, 0),
                        ("mine", 0, 0), ("load", 0), ("dump",), ("rope", STRONGEST + 1), ("open", 0, 0), ("shut", 0, 0),
                        ("start", 0, 0, 0)):
            self.assertLess(said(self.history, *refused), 0, refused)
            self.assertEqual(shown(self.history.shaft), before, refused)
            self.assertEqual(len(self.history.past), 1, refused)
            self.assertEqual(len(self.history.future), 1, refused)

    def test_another_change_ends_what_can_be_done_again(self):
        self.history.future = [self.history.shaft]
        said(self.history, "hire")
        self.assertEqual(self.history.future, [])

    def test_a_start_that_answers_0_leaves_no_changes(self):
        said(self.history, "hire")
        self.history.future = [self.history.shaft]
        self.assertEqual(said(self.history, "start", 1, 0, 1), 0)
        self.assertEqual((self.history.past, self.history.future), ([], []))


if __name__ == "__main__":
    unittest.main()
