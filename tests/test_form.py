"""The form of what is handed in and given back."""

import unittest

from lampcell.cell import answers
from tests.helper import ASKED, BACK, BEEN, SHOWS, call, cell, line_of, rounds, turned

LONG = line_of([call(2), SHOWS, BEEN, turned(2), rounds(1), *ASKED, cell(4, 2, 5, 0, 1), rounds(3), BACK, call(9),
                cell(1, 1, 1, 1, 1), turned(0), rounds(101), SHOWS, BEEN, *ASKED, rounds(100), call(1), rounds(0),
                *ASKED])


class Form(unittest.TestCase):
    def test_cell(self):
        self.assertEqual(answers([0, 4, 2, 5, 0, 1]), [1, 0])

    def test_call(self):
        self.assertEqual(answers([1, 2]), [2, 1, 0])

    def test_rounds(self):
        self.assertEqual(answers([2, 1]), [2, 3, 0])

    def test_back(self):
        self.assertEqual(answers([1, 3, 3]), [2, 1, 0, 1, 3])

    def test_shows(self):
        self.assertEqual(answers([4]), [4, 0, 0, 0, 0])

    def test_been(self):
        self.assertEqual(answers([5]), [1, 0])
        self.assertEqual(answers([2, 1, 5]), [2, 3, 0, 4, 3, 1, 2, 3])

    def test_turned(self):
        self.assertEqual(answers([6, 3]), [1, 0])

    def test_right(self):
        self.assertEqual(answers([2, 3, 7]), [2, 7, 1, 1, 1])

    def test_sure(self):
        self.assertEqual(answers([8]), [1, 1])

    def test_comes(self):
        self.assertEqual(answers([9]), [1, 1])

    def test_numbers(self):
        self.assertEqual(answers([10]), [3, 1, 2, 2])

    def test_wrong(self):
        self.assertEqual(answers([0, 3, 1, 1, 1, 0, 11]), [1, 0, 1, 2])

    def test_soon(self):
        self.assertEqual(answers([12]), [1, 4])

    def test_a_refusal_is_one_number(self):
        self.assertEqual(answers([0, 1, 1, 1, 1, 1]), [1, -1])
        self.assertEqual(answers([1, 4]), [1, -2])
        self.assertEqual(answers([2, 101]), [1, -1])
        self.assertEqual(answers([3]), [1, -7])
        self.assertEqual(answers([6, 4]), [1, -2])
        self.assertEqual(answers([7]), [1, -6])
        self.assertEqual(answers([11]), [1, -6])
        self.assertEqual(answers([0, 3, 1, 3, 1, 0, 12]), [1, 0, 1, -6])
        self.assertEqual(answers([2, 3, 12]), [2, 7, 1, 1, -9])
        self.assertEqual(answers([2, 3, 1, 1, 2, 1]), [2, 7, 1, 1, -9, 1, -9])

    def test_in_order(self):
        self.assertEqual(answers([1, 2, 4, 5, 6, 2, 1, 0, 3, 0, 2, 1, 1, 1, 0, 4]),
                         [2, 1, 0, 4, 1, 0, 0, 1, 2, 1, 2, 1, 1, 1, -2, 1, 2, 1, 0, 4, 0, 0, 0, 0])

    def test_forty_calls(self):
        self.assertEqual(answers([4] * 40), [4, 0, 0, 0, 0] * 40)
        self.assertEqual(answers([0, 2, 1, 1, 1, 0] * 40), [1, 0] * 40)

    def test_a_list_of_whole_numbers(self):
        told = answers(LONG)
        self.assertIs(type(told), list)
        for number in told:
            self.assertIs(type(number), int)


class HandedIn(unittest.TestCase):
    def test_is_as_it_was(self):
        line = list(LONG)
        answers(line)
        self.assertEqual(line, LONG)

    def test_is_not_changed_for_a_while_either(self):
        self.assertEqual(answers(Watched(LONG)), answers(LONG))

    def test_a_second_time_answers_the_same(self):
        first = answers(LONG)
        self.assertEqual(answers(LONG), first)

    def test_nothing_is_kept_for_another_line(self):
        line = [4, 5, 6, 1, 6, 2, 7, 8, 9, 10, 11, 12]
        before = answers(line)
        answers(line_of([cell(7, 3, 9, 0, 1), rounds(100), *ASKED]))
        self.assertEqual(answers(line), before)

    def test_what_is_given_back_is_the_askers(self):
        first = answers(LONG)
        kept = list(first)
        first.clear()
        self.assertEqual(answers(LONG), kept)


class Watched(list):
    """A list that fails as soon as something is changed in it."""

    def fail(self, *given):
        raise AssertionError("the list that was handed in is changed")

    __setitem__ = __delitem__ = __iadd__ = __imul__ = fail
    append = extend = insert = pop = remove = clear = sort = reverse = fail


if __name__ == "__main__":
    unittest.main()
