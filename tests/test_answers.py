"""The interface: what is handed in stays as it is, and nothing is kept from one time to the next."""

import unittest

from driver import STRONGEST, wait_till, written
from mineshaft.shaft import answers

LINE = written((
    ("start", 9, 5, 5), ("start", 2, STRONGEST, 30), ("level", 100, 40, 60), ("level", 250, 9, 0), ("hire",), ("hire",),
    ("board", 0), ("board", 1), ("wind", 1), ("leave", 0), ("mine", 1, 500), ("load", 200), ("fan", 1, 1), ("wait", 9),
    ("wind", 2), ("leave", 1), ("wind", 0), ("dump",), ("rope", 7), ("lock",), ("open", 0, 1), ("shut", 0, 1)))


class Handed(unittest.TestCase):
    def test_the_list_is_the_same_afterwards(self):
        handed = list(LINE)
        answers(handed)
        self.assertEqual(handed, LINE)

    def test_the_list_is_not_changed_for_a_while_either(self):
        class Guarded(list):
            def refuse(self, *given):
                raise AssertionError("the list that was handed in was changed")

            append = extend = insert = pop = remove = clear = sort = reverse = refuse
            __setitem__ = __delitem__ = __iadd__ = __imul__ = refuse

        self.assertEqual(answers(Guarded(LINE)), answers(LINE))

    def test_two_runs_answer_alike(self):
        first = answers(LINE)
        other = answers(written((("start", 1, 0, 1), ("hire",), ("level", 5, 5, 5), ("wait", 8))))
        self.assertEqual(answers(LINE), first)
        self.assertEqual(answers(written((("start", 1, 0, 1), ("hire",), ("level", 5, 5, 5), ("wait", 8)))), other)

    def test_what_was_given_back_is_a_list_of_its_own(self):
        first = answers(LINE)
        kept = list(first)
        first.clear()
        self.assertEqual(answers(LINE), kept)


class Form(unittest.TestCase):
    def test_a_count_of_one_ahead_of_each_answer(self):
        told = answers(LINE)
        self.assertIs(type(told), list)
        self.assertEqual(len(told), 2 * 22)
        self.assertEqual(told[::2], [1] * 22)
        self.assertEqual(told[1::2], [-22, 0, 1, 2, 0, 1, 1, 2, 4, 1, 500, 200, 160, 13, 5, 0, 9, 200, -16, 0, 0, 0])

    def test_whole_numbers_alone(self):
        self.assertEqual({type(number) for number in answers(LINE)}, {int})

    def test_a_thousand_calls(self):
        calls = [("start", 1, 0, 1)] + wait_till(900000)
        calls += [("hire",)] * (1000 - len(calls))
        told = answers(written(calls))
        self.assertEqual(len(told), 2000)
        self.assertEqual(told[2 * 625 + 1], 900000)
        self.assertEqual(told[-1], -28)


if __name__ == "__main__":
    unittest.main()
