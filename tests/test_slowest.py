"""Promise 5: slowest."""

import itertools
import math
import unittest

from screenbeats.beats import slowest
from tests.helper import HUGE, ORDERS, SCREENS, SOME_Z, BeatsByDefinition, ByItself, RefusesOtherScreens
from tests.helper import all_beats, area, beat_square, harmonics, told


def first_slowest(beats):
    """What the definition answers: the first of the least square that isn't 0."""
    least = min(square for square, row in beats if square != 0)
    row = next(row for square, row in beats if square == least)
    numbers = [least.numerator, least.denominator] + told(row)
    return [1, 0, len(numbers)] + numbers


class Ordinary(unittest.TestCase):
    def check(self, h, z, expected):
        self.assertEqual(slowest(h, z), expected)

    def test_two_screens(self):
        # Waves of (2, 0) are halves of i, j, those of (3, 0) thirds.
        self.check(1, [2, 0, 3, 0], [1, 0, 6, 1, 36, -1, 0, 1, 0])
        # Halves and thirds that aren't the same are at least a sixth apart.
        self.check(8, [2, 0, 3, 0], [1, 0, 6, 1, 36, -1, 0, 1, 0])
        # A quarter less an eighth is an eighth.
        self.check(1, [4, 0, 8, 0], [1, 0, 6, 1, 64, -1, 0, 1, 0])
        # (2, 1) less (1, 2) is (1, -1); less (3, 1), the second's with (1, -1), it is (-1, 0): fifths.
        self.check(1, [2, 1, 1, 2], [1, 0, 6, 2, 25, -1, 0, 1, 0])
        self.check(2, [2, 1, 1, 2], [1, 0, 6, 1, 25, -1, 0, 1, -1])

    def test_three_screens(self):
        # A half less a third is a sixth: with one more along it that's 0 or two sixths, across it the root of two.
        self.check(1, [2, 0, 3, 0, 6, 0], [1, 0, 8, 1, 18, -1, 0, 1, 0, 0, -1])
        self.check(1, [1, 0, 1, 0, 1, 0], [1, 0, 8, 1, 1, -1, 0, -1, 0, 1, 0])

    def test_screen_with_itself(self):
        self.check(1, [1, 0, 1, 0], [1, 0, 6, 2, 1, -1, 0, 0, -1])
        self.check(2, [1, 0, 1, 0], [1, 0, 6, 1, 1, -1, 0, 1, -1])
        for screen in SCREENS:
            # The waves are those of one lattice, turned and 1 / n as great: as far apart as whole places.
            n = area(screen)
            two, one = (2 // math.gcd(2, n), n // math.gcd(2, n)), (1, n)
            self.check(1, told([screen, screen]), [1, 0, 6, *two, -1, 0, 0, -1])
            for h in range(2, 9):
                self.check(h, told([screen, screen]), [1, 0, 6, *one, -1, 0, 1, -1])

    def test_every_order(self):
        for z in ([7, 3, 3, 7], [8, 0, 7, 0], [3, 1, 5, 2], [2, 1, 1, 2, 1, 1], [4, 1, 1, 4, 3, 3]):
            screens = list(zip(z[::2], z[1::2]))
            for h in ORDERS:
                self.check(h, z, first_slowest(all_beats(screens, h)))


class Definition(BeatsByDefinition, unittest.TestCase):
    function = slowest

    def expected(self, beats):
        return first_slowest(beats)

    def test_order_of_harmonics(self):
        # The tests' own order against what the document says.
        self.assertEqual(harmonics(1), [(-1, 0), (0, -1), (0, 1), (1, 0)])
        self.assertEqual(harmonics(2)[4:], [(-1, -1), (-1, 1), (1, -1), (1, 1)])
        self.assertEqual(harmonics(4)[8:], [(-2, 0), (0, -2), (0, 2), (2, 0)])
        self.assertEqual([len(harmonics(h)) for h in ORDERS], [4, 8, 8, 12, 20, 20, 20, 24])


class Form(unittest.TestCase):
    def check_form(self, h, screens):
        given = slowest(h, told(screens))
        many = len(screens)
        self.assertEqual(given[:3], [1, 0, 2 + 2 * many])
        self.assertEqual(len(given), 5 + 2 * many)
        upper, lower = given[3:5]
        self.assertGreater(upper, 0)
        self.assertGreater(lower, 0)
        self.assertEqual(math.gcd(upper, lower), 1)
        row = list(zip(given[5::2], given[6::2]))
        for harmonic in row:
            self.assertIn(harmonic, harmonics(h))
        square = beat_square(screens, row)
        self.assertEqual((square.numerator, square.denominator), (upper, lower))

    def test_all_pairs(self):
        for screens in itertools.product(SCREENS, repeat=2):
            for h in (1, 2, 5):
                self.check_form(h, screens)

    def test_many_triples(self):
        triples = list(itertools.product(SCREENS, repeat=3))
        for screens in triples[::97]:
            self.check_form(1 + area(screens[0]) % 4, screens)


class AnotherOrder(unittest.TestCase):
    def test_pairs(self):
        for first, second in itertools.combinations(SCREENS, 2):
            for h in (1, 2, 4, 5, 8):
                told_so = slowest(h, told([first, second]))
                told_otherwise = slowest(h, told([second, first]))
                self.assertEqual(told_so[:5], told_otherwise[:5], (h, first, second))

    def test_triples(self):
        triples = list(itertools.combinations(SCREENS, 3))
        for screens in triples[::211]:
            for h in (1, 2, 4):
                squares = {tuple(slowest(h, told(row))[:5]) for row in itertools.permutations(screens)}
                self.assertEqual(len(squares), 1, (h, screens))
        for h in (5, 8):
            squares = {tuple(slowest(h, told(row))[:5]) for row in itertools.permutations([(7, 3), (2, 5), (6, 0)])}
            self.assertEqual(len(squares), 1, h)


class Edges(unittest.TestCase):
    def test_greater_orders_are_no_faster(self):
        for screens in list(itertools.product(SCREENS, repeat=2))[::7]:
            squares = [slowest(h, told(screens))[3:5] for h in ORDERS]
            for (upper, lower), (later_upper, later_lower) in zip(squares, squares[1:]):
                self.assertLessEqual(later_upper * lower, upper * later_lower)


class Refusals(RefusesOtherScreens, unittest.TestCase):
    def given(self, z):
        return slowest(2, z)


class SlowestByItself(ByItself, unittest.TestCase):
    function = slowest
    calls = [(h, z) for z in SOME_Z for h in (0, 1, 2, 5, 9, HUGE)]


if __name__ == "__main__":
    unittest.main()
