"""Promise 6: lock."""

import itertools
import unittest

from screenbeats.beats import lock
from tests.helper import HUGE, NONE, ORDERS, REFUSED, SCREENS, SOME_Z, BeatsByDefinition, ByItself, RefusesOtherScreens
from tests.helper import all_beats, area, beat_square, harmonics, told


def first_lock(beats):
    """What the definition answers: the first whose square is 0."""
    for square, row in beats:
        if square == 0:
            return [1, 0, 2 * len(row)] + told(row)
    return NONE


class Ordinary(unittest.TestCase):
    def check(self, h, z, expected):
        self.assertEqual(lock(h, z), expected)

    def test_two_screens(self):
        # A quarter is two eighths, and harmonics of 2 come with order 4.
        for h in (1, 2, 3):
            self.check(h, [4, 0, 8, 0], NONE)
            self.check(h, [8, 0, 4, 0], NONE)
        for h in (4, 5, 6, 7, 8):
            self.check(h, [4, 0, 8, 0], [1, 0, 4, -1, 0, 2, 0])
            self.check(h, [8, 0, 4, 0], [1, 0, 4, -2, 0, 1, 0])
        # Halves and thirds are the same only as whole ones, beyond order 8.
        for h in ORDERS:
            self.check(h, [2, 0, 3, 0], NONE)
        # A wave of both is a whole number of each: (2, 1) with (1, 2), (1, 2) with (2, 1), or these turned.
        for h in (1, 2, 3, 4):
            self.check(h, [2, 1, 1, 2], NONE)
        for h in (5, 6, 7, 8):
            self.check(h, [2, 1, 1, 2], [1, 0, 4, -2, 1, 1, -2])
        # (1, 1) / 2 with (-1, 0) is a half of both, so (-1, -1) of halves.
        self.check(1, [1, 1, 2, 0], NONE)
        self.check(2, [1, 1, 2, 0], [1, 0, 4, -1, 0, 1, 1])

    def test_three_screens(self):
        # A half is a third and a sixth.
        for h in ORDERS:
            self.check(h, [2, 0, 3, 0, 6, 0], [1, 0, 6, -1, 0, 1, 0, 1, 0])
        self.check(1, [1, 0, 1, 0, 1, 0], NONE)
        self.check(2, [1, 0, 1, 0, 1, 0], [1, 0, 6, -1, 0, 0, -1, 1, 1])
        # Sevenths make no eighth.
        for h in ORDERS:
            self.check(h, [7, 0, 7, 0, 8, 0], NONE)

    def test_screen_with_itself(self):
        for screen in SCREENS:
            for h in ORDERS:
                self.check(h, told([screen, screen]), [1, 0, 4, -1, 0, 1, 0])

    def test_three_of_which_two_are_the_same(self):
        # A half is two quarters; from order 5 on (1, 2) and (2, 1) make rows that stand ahead of that.
        for h in ORDERS:
            self.check(h, [4, 0, 4, 0, 2, 0], [1, 0, 6, -1, 0, -1, 0, 1, 0])
        for h in (1, 2, 3, 4):
            self.check(h, [4, 0, 2, 0, 4, 0], [1, 0, 6, -1, 0, 1, 0, -1, 0])
            self.check(h, [2, 0, 4, 0, 4, 0], [1, 0, 6, -1, 0, 1, 0, 1, 0])
        for h in (5, 6, 7, 8):
            self.check(h, [4, 0, 2, 0, 4, 0], [1, 0, 6, -1, 0, 0, -1, 1, 2])
            self.check(h, [2, 0, 4, 0, 4, 0], [1, 0, 6, -1, 0, 0, -1, 2, 1])
        self.check(1, [2, 1, 2, 1, 1, 2], NONE)

    def test_every_order(self):
        for z in ([7, 3, 3, 7], [8, 0, 4, 4], [3, 1, 1, 3], [2, 1, 1, 2, 1, 1], [4, 2, 2, 1, 4, 2], [8, 0, 7, 0, 5, 0]):
            screens = list(zip(z[::2], z[1::2]))
            for h in ORDERS:
                self.check(h, z, first_lock(all_beats(screens, h)))


class Definition(BeatsByDefinition, unittest.TestCase):
    function = lock

    def expected(self, beats):
        return first_lock(beats)

    def test_both_are_told_often(self):
        # Else those tests would say little of the one or the other.
        answers = [lock(8, told(pair)) for pair in itertools.product(SCREENS, repeat=2)]
        self.assertGreater(answers.count(NONE), 200)
        self.assertLess(answers.count(NONE), len(answers) - 200)


class Form(unittest.TestCase):
    def check_form(self, h, screens):
        given = lock(h, told(screens))
        if given == NONE:
            return
        many = len(screens)
        self.assertEqual(given[:3], [1, 0, 2 * many])
        row = list(zip(given[3::2], given[4::2]))
        self.assertEqual(len(given), 3 + 2 * many)
        for harmonic in row:
            self.assertIn(harmonic, harmonics(h))
        self.assertEqual(beat_square(screens, row), 0)

    def test_all_pairs(self):
        for screens in itertools.product(SCREENS, repeat=2):
            for h in ORDERS:
                self.check_form(h, screens)

    def test_many_triples(self):
        triples = list(itertools.product(SCREENS, repeat=3))
        for screens in triples[::97]:
            self.check_form(1 + area(screens[0]) % 4, screens)

    def test_another_order_has_one_too(self):
        for first, second in itertools.combinations(SCREENS, 2):
            for h in (1, 2, 4, 5, 8):
                told_so, told_otherwise = lock(h, told([first, second])), lock(h, told([second, first]))
                self.assertEqual(told_so[0], told_otherwise[0], (h, first, second))


class Edges(unittest.TestCase):
    def test_orders_at_which_one_comes(self):
        # The harmonic of the second screen is (1, 0), (1, 1), (2, 0), (2, 1), (2, 2) or turned: orders 1, 2, 4, 5, 8.
        for z, order in (([3, 0, 3, 0], 1), ([2, 0, 2, 2], 2), ([2, 0, 4, 0], 4), ([1, 0, 2, 1], 5), ([2, 0, 4, 4], 8)):
            for h in ORDERS:
                self.assertEqual(lock(h, z) != NONE, h >= order, (h, z))


class Refusals(RefusesOtherScreens, unittest.TestCase):
    def given(self, z):
        return lock(2, z)

    def test_refused_ahead_of_none(self):
        self.assertEqual(lock(8, [2, 0, 3, 0]), NONE)
        for h, z in ((9, [2, 0, 3, 0]), (0, [2, 0, 3, 0]), (8, [2, 0, 9, 0]), (8, [2, 0, 3, 0, 0, 0]), (8, [2, 0, 3])):
            self.assertEqual(lock(h, z), REFUSED)


class LockByItself(ByItself, unittest.TestCase):
    function = lock
    calls = [(h, z) for z in SOME_Z for h in (0, 1, 2, 5, 9, HUGE)]


if __name__ == "__main__":
    unittest.main()
