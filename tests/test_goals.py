"""sure, comes and numbers: at both edges of c, the lamp known to be off and not known."""

import unittest

from tests.helper import BACK, COMES, NUMBERS, SURE, ask, call, cell, last, rounds

# n, t and whether the lamp is known to be off; then the least c that is sure, the greatest that comes.
EDGES = (
    (2, 1, 1, 1, 1), (2, 1, 0, 2, 1),
    (2, 2, 1, 1, 2), (2, 2, 0, 2, 2),
    (2, 20, 1, 1, 20), (2, 20, 0, 2, 20),
    (3, 1, 1, 2, 2), (3, 1, 0, 3, 2),
    (3, 2, 1, 3, 4), (3, 2, 0, 4, 4),
    (4, 2, 1, 5, 6), (4, 2, 0, 6, 6),
    (5, 3, 1, 10, 12), (5, 3, 0, 11, 12),
    (11, 20, 1, 181, 200), (11, 20, 0, 182, 200),
    (20, 1, 1, 19, 19), (20, 1, 0, 20, 19),
    (20, 2, 1, 37, 38), (20, 2, 0, 38, 38),
    (20, 20, 1, 361, 380), (20, 20, 0, 362, 380),
)


def ways(known):
    """The ways that the lamp may be handed in."""
    return (0,) if known == 1 else (0, 1)


class Edges(unittest.TestCase):
    def each(self, question, c_of, expected):
        for n, t, known, least, greatest in EDGES:
            c = c_of(least, greatest)
            for lamp in ways(known):
                with self.subTest(n=n, t=t, c=c, known=known, lamp=lamp):
                    # A c of 0 is no cell's.
                    if c > 0:
                        self.assertEqual(ask(cell(n, t, c, known, lamp), question), [[0], [expected]])

    def test_the_least_that_is_sure(self):
        self.each(SURE, lambda least, greatest: least, 1)

    def test_one_less_isnt_sure(self):
        self.each(SURE, lambda least, greatest: least - 1, 0)

    def test_what_never_comes_is_sure(self):
        self.each(SURE, lambda least, greatest: greatest + 2, 1)
        self.each(SURE, lambda least, greatest: 400, 1)

    def test_the_greatest_that_comes(self):
        self.each(COMES, lambda least, greatest: greatest, 1)

    def test_one_more_doesnt_come(self):
        self.each(COMES, lambda least, greatest: greatest + 1, 0)
        self.each(COMES, lambda least, greatest: 400, 0)

    def test_one_comes_always(self):
        self.each(COMES, lambda least, greatest: 1, 1)

    def test_one_is_sure_with_two_people_and_the_lamp_known_alone(self):
        for n, t, known, least, greatest in EDGES:
            self.assertEqual(last(cell(n, t, 1, known, 0), SURE), [1 if (n, known) == (2, 1) else 0])


class Numbers(unittest.TestCase):
    def test_how_many_the_least_the_greatest(self):
        self.assertEqual(last(cell(3, 2, 1, 1, 0), NUMBERS), [2, 3, 4])
        self.assertEqual(last(cell(3, 2, 1, 0, 0), NUMBERS), [1, 4, 4])
        self.assertEqual(last(cell(5, 3, 1, 1, 0), NUMBERS), [3, 10, 12])
        self.assertEqual(last(cell(5, 3, 1, 0, 1), NUMBERS), [2, 11, 12])
        self.assertEqual(last(cell(2, 20, 1, 1, 0), NUMBERS), [20, 1, 20])
        self.assertEqual(last(cell(2, 20, 1, 0, 0), NUMBERS), [19, 2, 20])
        self.assertEqual(last(cell(20, 20, 1, 1, 0), NUMBERS), [20, 361, 380])
        self.assertEqual(last(cell(20, 20, 1, 0, 1), NUMBERS), [19, 362, 380])

    def test_once_each_is_enough_where_the_lamp_is_known_to_be_off(self):
        for n in range(2, 21):
            self.assertEqual(last(cell(n, 1, 1, 1, 0), NUMBERS), [1, n - 1, n - 1])

    def test_once_each_isnt_enough_where_its_not_known(self):
        for n in range(2, 21):
            for lamp in (0, 1):
                self.assertEqual(last(cell(n, 1, 1, 0, lamp), NUMBERS), [0, 0, 0])

    def test_twice_each_is(self):
        for n in range(2, 21):
            self.assertEqual(last(cell(n, 2, 1, 0, 1), NUMBERS), [1, 2 * n - 2, 2 * n - 2])

    def test_at_all_edges(self):
        for n, t, known, least, greatest in EDGES:
            c_that_do = list(range(least, greatest + 1))
            expected = [len(c_that_do), least, greatest] if c_that_do else [0, 0, 0]
            for lamp in ways(known):
                with self.subTest(n=n, t=t, known=known, lamp=lamp):
                    self.assertEqual(last(cell(n, t, 1, known, lamp), NUMBERS), expected)

    def test_whatever_c_is(self):
        for c in (1, 9, 10, 12, 13, 400):
            self.assertEqual(last(cell(5, 3, c, 1, 0), NUMBERS), [3, 10, 12])

    def test_they_are_those_that_are_sure_and_come(self):
        for n, t, known in ((2, 20, 0), (5, 3, 1), (5, 3, 0), (20, 1, 0), (20, 20, 0), (20, 20, 1)):
            both = [c for c in range(1, 401) if ask(cell(n, t, c, known, 0), SURE, COMES)[1:] == [[1], [1]]]
            expected = [len(both), both[0], both[-1]] if both else [0, 0, 0]
            self.assertEqual(last(cell(n, t, 1, known, 0), NUMBERS), expected)


class TheNumbersAlone(unittest.TestCase):
    def asked(self, *calls):
        return ask(*calls, SURE, COMES, NUMBERS)[-3:]

    def test_whatever_has_been_called(self):
        for start in (cell(3, 1, 2, 1, 0), cell(3, 1, 1, 1, 0), cell(3, 1, 3, 1, 0), cell(3, 1, 2, 0, 0),
                      cell(3, 1, 3, 0, 1), cell(4, 2, 6, 0, 1), cell(2, 20, 20, 1, 0), cell(3, 1, 400, 0, 1)):
            for calls in ([call(2)], [call(2), call(1)], [call(1)], [rounds(1)], [rounds(100)], [rounds(100), BACK],
                          [call(2), call(1), call(2), BACK, BACK, BACK]):
                with self.subTest(start=start, calls=calls):
                    self.assertEqual(self.asked(start, *calls), self.asked(start))

    def test_a_lamp_that_burned_doesnt_make_it_come(self):
        self.assertEqual(ask(cell(3, 1, 3, 0, 1), COMES, rounds(100), COMES), [[0], [0], [7, 1], [0]])

    def test_a_lamp_that_was_off_doesnt_make_it_sure(self):
        self.assertEqual(ask(cell(3, 1, 2, 0, 0), SURE, rounds(100), SURE), [[0], [0], [7, 1], [0]])

    def test_a_new_cell_is_asked_anew(self):
        self.assertEqual(self.asked(cell(5, 3, 10, 0, 1), cell(5, 3, 10, 1, 0)), [[1], [1], [3, 10, 12]])

    def test_a_refused_cell_isnt_asked(self):
        self.assertEqual(self.asked(cell(5, 3, 10, 0, 1), cell(5, 3, 10, 1, 1)), [[0], [1], [2, 11, 12]])


if __name__ == "__main__":
    unittest.main()
