"""sure, comes, wrong and soon of small cells, against a search through all orders of calls."""

import itertools
import unittest

from tests.helper import COMES, SOON, SURE, WRONG, ask, call, cell, last

# n and t of the cells that are searched; c goes beyond what the others can turn it on.
SMALL = ((2, 1), (2, 2), (2, 3), (3, 1), (3, 2), (3, 3), (4, 1), (4, 2), (5, 1))


def first(n, lamp):
    """A moment: the lamp, how many are counted, how often each other one has turned it on, who has been called."""
    return (lamp, 0, (0,) * (n - 1), (False,) * n)


def after(moment, p, t):
    lamp, counted, on, been = moment
    been = been[:p - 1] + (True,) + been[p:]
    if p == 1 and lamp == 1:
        return (0, counted + 1, on, been)
    if p != 1 and lamp == 0 and on[p - 2] < t:
        return (1, counted, on[:p - 2] + (on[p - 2] + 1,) + on[p - 1:], been)
    return (lamp, counted, on, been)


def fewest(starts, t, c, is_wanted):
    """How many calls it takes at the fewest till it's said in the wanted way; -6 if no order leads there."""
    seen = set(starts)
    now = list(starts)
    calls = 0
    while now:
        calls = calls + 1
        later = []
        for moment in now:
            for p in range(1, len(moment[3]) + 1):
                there = after(moment, p, t)
                if there[1] == c:
                    if is_wanted(there):
                        return calls
                elif there not in seen:
                    seen.add(there)
                    later.append(there)
        now = later
    return -6


def is_wrong(moment):
    return not all(moment[3])


def is_any(moment):
    return True


def firsts(n, known):
    return [first(n, lamp) for lamp in ((0,) if known else (0, 1))]


def rounds_lead(start, t, c):
    """Whether rounds, one after another, lead to its being said: till one changes nothing any more."""
    before = None
    moment = start
    while moment != before:
        before = moment
        for p in range(1, len(moment[3]) + 1):
            moment = after(moment, p, t)
            if moment[1] == c:
                return True
    return False


def small_cells():
    for n, t in SMALL:
        for c in range(1, (n - 1) * t + 4):
            for known, lamp in ((1, 0), (0, 0), (0, 1)):
                yield n, t, c, known, lamp


class AllOrders(unittest.TestCase):
    def test_sure_comes_and_wrong(self):
        for n, t, c, known, lamp in small_cells():
            starts = firsts(n, known)
            wrong = fewest(starts, t, c, is_wrong)
            comes = all(rounds_lead(start, t, c) for start in starts)
            with self.subTest(n=n, t=t, c=c, known=known, lamp=lamp):
                self.assertEqual(ask(cell(n, t, c, known, lamp), SURE, COMES, WRONG),
                                 [[0], [int(wrong == -6)], [int(comes)], [wrong]])

    def test_soon_at_first(self):
        for n, t, c, known, lamp in small_cells():
            with self.subTest(n=n, t=t, c=c, known=known, lamp=lamp):
                self.assertEqual(last(cell(n, t, c, known, lamp), SOON), [fewest([first(n, lamp)], t, c, is_any)])

    def soon_behind_each_order(self, n, t, c, lamp, length):
        found = {}
        for order in itertools.product(range(1, n + 1), repeat=length):
            moment = first(n, lamp)
            expected = []
            for p in order:
                if moment[1] < c:
                    moment = after(moment, p, t)
                if moment not in found:
                    found[moment] = -9 if moment[1] == c else fewest([moment], t, c, is_any)
                expected.append([found[moment]])
            asked = [one for p in order for one in (call(p), SOON)]
            with self.subTest(n=n, t=t, c=c, lamp=lamp, order=order):
                self.assertEqual(ask(cell(n, t, c, 0, lamp), *asked)[2::2], expected)

    def test_soon_in_the_midst(self):
        for n, t, length in ((2, 1, 6), (2, 2, 7), (3, 1, 6), (3, 2, 6), (4, 1, 5)):
            for c in range(1, (n - 1) * t + 3):
                for lamp in (0, 1):
                    self.soon_behind_each_order(n, t, c, lamp, length)


if __name__ == "__main__":
    unittest.main()
