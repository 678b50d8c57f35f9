"""The interface: its form, that what is handed in stays as it is, and that nothing is kept till the next time."""

import unittest

from driver import NAMES, STRONGEST, wait_till, written
from mineshaft.shaft import answers

CALLS = (
    ("start", 9, 5, 5), ("start", 2, STRONGEST, 30), ("level", 100, 40, 60), ("level", 250, 9, 0), ("hire",), ("hire",),
    ("board", 0), ("board", 1), ("wind", 1), ("leave", 0), ("mine", 1, 500), ("load", 200), ("fan", 1, 1), ("wait", 9),
    ("where", 0), ("where", 2), ("below",), ("who", 0), ("who", 3), ("cage",), ("need",), ("next",), ("gas", 2),
    ("gas", 0), ("foul",), ("long", 13), ("may", 0), ("may", 1), ("ore",), ("wind", 2), ("leave", 1), ("wind", 0),
    ("dump",), ("rope", 7), ("lock",), ("open", 0, 1), ("doors",), ("shut", 0, 1), ("back",), ("state",), ("again",),
    ("again",), ("start", 1, 0, 1), ("next",))
LINE = written(CALLS)
ANSWERS = (
    (-22,), (0,), (1,), (2,), (0,), (1,), (1,), (2,), (4,), (1,), (500,), (200,), (160,), (13,), (1, 0), (-2,), (1, 1),
    (0, 0), (-2,), (1, 2, 200, 1280), (1, 136000, 116000, STRONGEST), (0, 0), (117, 1100), (-2,), (0, 0), (1, 1),
    (128000,), (-17,), (0, 200, 300, 500), (5,), (0,), (9,), (200,), (-16,), (0,), (0,), (1, 0, 1), (0,), (18,),
    (27, 2, 2, 1, 18, 1), (0,), (-2,), (0,), (-6,))


def thousand():
    """A thousand calls: those above and one more, again and again, each time from a new start on."""
    calls = []
    while len(calls) < 1000:
        calls.extend(CALLS)
        calls.append(("wait", len(calls)))
    return calls[:1000]


class Guarded(list):
    """A list that fails if it's changed."""

    def refuse(self, *given):
        raise AssertionError("the list that was handed in was changed")

    append = extend = insert = pop = remove = clear = sort = reverse = refuse
    __setitem__ = __delitem__ = __iadd__ = __imul__ = refuse


class Handed(unittest.TestCase):
    def test_the_list_is_the_same_afterwards(self):
        for line in (LINE, written(thousand())):
            handed = list(line)
            answers(handed)
            self.assertEqual(handed, line)

    def test_the_list_is_not_changed_for_a_while_either(self):
        self.assertEqual(answers(Guarded(LINE)), answers(LINE))

    def test_two_runs_answer_alike(self):
        for line in (LINE, written(thousand())):
            self.assertEqual(answers(line), answers(line))

    def test_nothing_is_kept_from_one_time_to_the_next(self):
        first = answers(LINE)
        small = written((("start", 1, 0, 1), ("hire",), ("level", 5, 5, 5), ("wait", 8), ("back",), ("state",)))
        other = answers(small)
        self.assertEqual(answers(LINE), first)
        self.assertEqual(answers(small), other)
        self.assertEqual(other, [1, 0, 1, 0, 1, 1, 1, 8, 1, 2, 6, 0, 1, 1, 0, 2, 1])

    def test_what_was_given_back_is_a_list_of_its_own(self):
        first = answers(LINE)
        kept = list(first)
        first.clear()
        self.assertEqual(answers(LINE), kept)


class Form(unittest.TestCase):
    def test_a_count_ahead_of_each_answer(self):
        self.assertEqual({call[0] for call in CALLS}, set(NAMES))
        told = answers(LINE)
        self.assertIs(type(told), list)
        expected = []
        for answer in ANSWERS:
            expected += [len(answer), *answer]
        self.assertEqual(told, expected)

    def test_whole_numbers_alone(self):
        self.assertEqual({type(number) for number in answers(LINE)}, {int})

    def test_the_numbers_of_the_calls(self):
        # As the interface tells them, apart from the names that the other tests use.
        self.assertEqual(answers([0, 1, 0, 1, 29]), [1, 0, 6, 0, 0, 0, 0, 0, 0])
        self.assertEqual(answers([0, 1, 0, 1, 28, 27, 26, 25, 24, 0, 23, 0, 22, 21, 0, 20, 19, 18, 17, 0, 16, 15, 0]), [
            1, 0, 1, -2, 1, -2, 3, 0, 0, 0, 4, 0, 0, 0, 0, 1, -17, 2, 0, 0, 2, 0, 0, 1, -2, 1, -6, 4, 0, 0, 0, 0,
            4, 0, 0, 0, 1000, 2, 0, 0, 2, 0, 0, 1, -2])

    def test_a_thousand_calls(self):
        calls = [("start", 1, 0, 1)] + wait_till(900000)
        calls += [("hire",)] * (1000 - len(calls))
        told = answers(written(calls))
        self.assertEqual(len(told), 2000)
        self.assertEqual(told[2 * 625 + 1], 900000)
        self.assertEqual(told[-1], -28)

    def test_a_thousand_calls_of_all_kinds(self):
        calls = thousand()
        self.assertEqual({call[0] for call in calls}, set(NAMES))
        told = answers(written(calls))
        # Each start makes all new, so each round but its one more call answers as the first one.
        round_of_answers = answers(LINE)
        self.assertEqual(told[:len(round_of_answers)], round_of_answers)
        later = len(round_of_answers) + 2
        self.assertEqual(told[later + 2:later + len(round_of_answers)], round_of_answers[2:])


if __name__ == "__main__":
    unittest.main()
