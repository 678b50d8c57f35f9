"""Points 1 and 11: what a change is, sh_back, sh_again and sh_state."""

import unittest

from driver import CHANGES, STRONGEST, asked, questions, run, told

START = ("start", 2, STRONGEST, 30)
EVERY_CHANGE = (("level", 100, 40, 60), ("hire",), ("wait", 3), ("board", 0), ("wind", 1), ("leave", 0), ("wait", 9),
                ("fan", 1, 1), ("mine", 1, 500), ("load", 200), ("fan", 1, 0), ("board", 0), ("wind", 0), ("dump",),
                ("leave", 0), ("rope", 700), ("lock",), ("open", 0, 1), ("shut", 0, 1), ("open", 0, 0))
REFUSED = (("level", 0, 0, 0), ("board", 7), ("leave", 7), ("wind", 0), ("wait", 0), ("fan", 0, 0), ("mine", 0, 0),
           ("load", 0), ("dump",), ("rope", STRONGEST + 1), ("open", 7, 0), ("shut", 7, 0), ("start", 0, 0, 0))
ASKING = questions(1, 1)


def seen(*calls):
    """All that is answered of the shaft after the calls, but how many changes there are."""
    found = dict(zip(ASKING, told(*calls, *ASKING)[len(calls):]))
    found["state",] = found["state",][:4]
    return found


def counts(*calls):
    """How many changes can be taken back and be done again after the calls."""
    return asked(*calls, ("state",))[4:]


class TakingBack(unittest.TestCase):
    def test_none(self):
        self.assertEqual(run(START, ("back",), ("again",)), [0, -2, -2])

    def test_one(self):
        self.assertEqual(told(START, ("hire",), ("back",), ("state",), ("back",), ("hire",))[2:],
                         [[0], [0, 0, 0, 0, 0, 1], [-2], [0]])

    def test_every_kind_of_change(self):
        self.assertEqual({change[0] for change in EVERY_CHANGE}, set(CHANGES))
        for made in range(1, len(EVERY_CHANGE) + 1):
            calls = (START, *EVERY_CHANGE[:made])
            self.assertNotEqual(seen(*calls), seen(*calls[:-1]), calls[-1])
            self.assertEqual(told(*calls, ("back",))[-1], [made - 1], calls[-1])
            self.assertEqual(seen(*calls, ("back",)), seen(*calls[:-1]), calls[-1])
            self.assertEqual(told(*calls, ("back",), ("again",))[-1], [0], calls[-1])
            self.assertEqual(seen(*calls, ("back",), ("again",)), seen(*calls), calls[-1])

    def test_all_one_after_another_and_again(self):
        calls = (START, *EVERY_CHANGE)
        many = len(EVERY_CHANGE)
        states = [seen(*calls[:1 + made]) for made in range(many + 1)]
        for back in range(many + 1):
            self.assertEqual(seen(*calls, *[("back",)] * back), states[many - back], back)
            self.assertEqual(counts(*calls, *[("back",)] * back), [many - back, back])
        all_back = (*calls, *[("back",)] * many)
        self.assertEqual(run(*all_back)[-many:], list(range(many - 1, -1, -1)))
        for again in range(many + 1):
            self.assertEqual(seen(*all_back, *[("again",)] * again), states[again], again)
            self.assertEqual(counts(*all_back, *[("again",)] * again), [again, many - again])
        self.assertEqual(run(*all_back, *[("again",)] * (many + 1))[-many - 1:], [*range(many - 1, -1, -1), -2])

    def test_what_follows_is_as_if_it_had_never_been(self):
        # What is made after taking back goes out from the shaft as it was, not from what was taken back.
        for made in range(1, len(EVERY_CHANGE) + 1):
            calls = (START, *EVERY_CHANGE[:made])
            self.assertEqual(seen(*calls, ("back",), ("wait", 5)), seen(*calls[:-1], ("wait", 5)), calls[-1])
            # A shaft that was kept is not changed by what is made later.
            self.assertEqual(seen(*calls, ("wait", 5), ("hire",), ("back",), ("back",)), seen(*calls), calls[-1])

    def test_minute_of_a_person(self):
        there = (START, ("hire",), ("wait", 6), ("board", 0))
        self.assertEqual(told(*there, ("where", 0), ("back",), ("where", 0), ("again",), ("where", 0))[-5::2],
                         [[9, 6], [0, 0], [9, 6]])


class TheLast30(unittest.TestCase):
    def test_just_30_can_be_taken_back(self):
        for made in (29, 30, 31, 45):
            calls = (START, *[("wait", 1)] * made)
            most = min(made, 30)
            self.assertEqual(counts(*calls), [most, 0])
            found = run(*calls, *[("back",)] * (most + 1))
            self.assertEqual(found[len(calls):], [*range(most - 1, -1, -1), -2])
            self.assertEqual(asked(*calls, *[("back",)] * (most + 1), ("state",)), [made - most, 0, 0, 0, 0, most])

    def test_all_30_can_be_done_again(self):
        calls = (START, *[("wait", 1)] * 45, *[("back",)] * 30)
        found = run(*calls, *[("again",)] * 31)
        self.assertEqual(found[len(calls):], [*range(29, -1, -1), -2])
        self.assertEqual(asked(*calls, *[("again",)] * 31, ("state",)), [45, 0, 0, 0, 30, 0])

    def test_taken_back_ones_do_not_count(self):
        calls = (START, *[("wait", 1)] * 30, *[("back",)] * 10, *[("wait", 1)] * 5)
        self.assertEqual(counts(*calls), [25, 0])
        self.assertEqual(asked(*calls, *[("wait", 1)] * 8, *[("back",)] * 40, ("state",)), [3, 0, 0, 0, 0, 30])


class DoingAgain(unittest.TestCase):
    def test_in_the_order_they_were_made(self):
        calls = (START, ("wait", 1), ("wait", 10), ("wait", 100), *[("back",)] * 3)
        found = told(*calls, *[("again",), ("state",)] * 3)
        self.assertEqual([answer[0] for answer in found[len(calls) + 1::2]], [1, 11, 111])
        self.assertEqual(run(*calls, *[("again",)] * 4)[-4:], [2, 1, 0, -2])

    def test_none_after_another_change(self):
        # Each kind of change ends it, and one that is the same as that which was taken back too.
        for made in range(1, len(EVERY_CHANGE) + 1):
            calls = (START, *EVERY_CHANGE[:made - 1], ("lock",), ("back",))
            self.assertEqual(counts(*calls), [made - 1, 1])
            self.assertEqual(run(*calls, EVERY_CHANGE[made - 1], ("again",))[-1], -2, EVERY_CHANGE[made - 1])
            self.assertEqual(counts(*calls, EVERY_CHANGE[made - 1]), [made, 0])
        self.assertEqual(run(START, ("wait", 4), ("back",), ("wait", 4), ("again",)), [0, 4, 0, 4, -2])

    def test_still_after_a_refused_call(self):
        calls = (START, ("level", 9, 0, 0), ("wait", 2), ("wait", 3), ("back",), ("back",))
        for refused in REFUSED:
            found = run(*calls, refused, ("again",), ("again",), ("again",))[len(calls):]
            self.assertLess(found[0], 0, refused)
            self.assertEqual(found[1:], [1, 0, -2], refused)
            self.assertEqual(counts(*calls, refused), [1, 2], refused)
            self.assertEqual(seen(*calls, refused), seen(*calls), refused)
        self.assertEqual({refused[0] for refused in REFUSED}, {"start", *CHANGES} - {"hire", "lock"})

    def test_still_after_a_refused_hiring_or_lock(self):
        for name, most in (("hire", 24), ("lock", 4)):
            calls = (START, *[(name,)] * most, ("wait", 2), ("back",))
            self.assertEqual(run(*calls, (name,), ("again",))[-2:], [-28, 0])
            self.assertEqual(counts(*calls, (name,)), [most, 1])

    def test_still_after_a_refused_taking_back(self):
        self.assertEqual(run(START, ("wait", 2), ("back",), ("back",), ("again",)), [0, 2, 0, -2, 0])
        self.assertEqual(run(START, ("wait", 2), ("again",), ("back",), ("back",)), [0, 2, -2, 0, -2])

    def test_still_after_a_question(self):
        calls = (START, ("wait", 2), ("back",))
        for question in questions(0, 0):
            self.assertEqual(run(*calls, question, ("again",))[-1], 0, question)
            self.assertEqual(counts(START, ("wait", 2), question), [1, 0], question)


class Starting(unittest.TestCase):
    def test_a_start_leaves_no_changes(self):
        calls = (START, *EVERY_CHANGE, ("back",), ("start", 3, 8, 9))
        self.assertEqual(counts(*calls), [0, 0])
        self.assertEqual(run(*calls, ("back",), ("again",))[-2:], [-2, -2])

    def test_all_is_as_at_first(self):
        for made in range(len(EVERY_CHANGE) + 1):
            self.assertEqual(seen(START, *EVERY_CHANGE[:made], ("start", 3, 8, 9)), seen(("start", 3, 8, 9)), made)

    def test_a_refused_start_leaves_all(self):
        calls = (START, *EVERY_CHANGE, ("back",))
        for refused in (("start", 0, 8, 9), ("start", 9, 8, 9), ("start", 3, STRONGEST + 1, 9), ("start", 3, 8, 0),
                        ("start", 3, 8, 1001)):
            self.assertEqual(asked(*calls, refused), [-22])
            self.assertEqual(seen(*calls, refused), seen(*calls))
            self.assertEqual(counts(*calls, refused), [len(EVERY_CHANGE) - 1, 1])


class State(unittest.TestCase):
    def test_at_first(self):
        self.assertEqual(asked(START, ("state",)), [0, 0, 0, 0, 0, 0])

    def test_each_number(self):
        calls = (START, ("level", 10, 0, 0), ("level", 20, 0, 0), *[("hire",)] * 4, ("lock",), ("wait", 17))
        self.assertEqual(asked(*calls, ("state",)), [17, 2, 4, 1, 8, 0])
        self.assertEqual(asked(*calls, ("lock",), ("wind", 1), ("back",), ("state",)), [17, 2, 4, 2, 9, 1])
        self.assertEqual(asked(*calls, ("wind", 1), ("wind", 2), ("state",)), [19, 2, 4, 1, 10, 0])
        self.assertEqual(asked(*calls, *[("back",)] * 3, ("state",)), [0, 2, 3, 0, 5, 3])

    def test_the_most(self):
        calls = (("start", 1, STRONGEST, 1), *[("level", depth, 0, 0) for depth in range(1, 7)], *[("hire",)] * 25,
                 *[("lock",)] * 5)
        self.assertEqual(asked(*calls, ("state",)), [0, 5, 24, 4, 30, 0])


if __name__ == "__main__":
    unittest.main()
