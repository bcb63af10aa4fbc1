"""Promise 1: common."""

import itertools
import unittest

from screenbeats.beats import common
from tests.helper import REFUSED, SCREENS, SOME_Z, ByItself, RefusesOtherScreens
from tests.helper import area, lattice_told, on_lattice, places, told


class Ordinary(unittest.TestCase):
    def check(self, z, expected):
        self.assertEqual(common(z), expected)

    def test_two_screens(self):
        self.check([2, 0, 3, 0], [36, 0, 2, 6, 0])
        self.check([1, 1, 2, 0], [4, 0, 2, 2, 0])
        self.check([1, 1, 3, 0], [18, 0, 2, 3, 3])
        self.check([1, 1, 2, 1], [10, 0, 2, 1, 3])
        self.check([6, 0, 4, 0], [144, 0, 2, 12, 0])

    def test_three_screens(self):
        self.check([2, 0, 3, 0, 5, 0], [900, 0, 2, 30, 0])
        self.check([2, 1, 1, 2, 1, 1], [50, 0, 2, 5, 5])
        self.check([2, 0, 4, 0, 8, 0], [64, 0, 2, 8, 0])
        self.check([1, 0, 1, 0, 1, 0], [1, 0, 2, 1, 0])
        self.check([8, 0, 7, 0, 5, 0], [78400, 0, 2, 280, 0])

    def test_turned_against_one_another(self):
        self.check([2, 1, 1, 2], [25, 0, 2, 5, 0])
        self.check([3, 1, 1, 3], [50, 0, 2, 5, 5])
        self.check([3, 2, 2, 3], [169, 0, 2, 13, 0])

    def test_multiples_of_one_another(self):
        self.check([2, 1, 4, 2], [20, 0, 2, 4, 2])
        self.check([1, 2, 3, 1], [10, 0, 2, 3, 1])
        self.check([1, 0, 5, 3], [34, 0, 2, 5, 3])
        self.check([1, 1, 2, 2, 4, 4], [32, 0, 2, 4, 4])

    def test_screen_with_itself(self):
        for a, b in SCREENS:
            own = [a * a + b * b, 0, 2, a, b]
            self.check([a, b, a, b], own)
            self.check([a, b, a, b, a, b], own)


class Definition(unittest.TestCase):
    def parts(self, screens):
        return lattice_told(self, common(told(screens)))

    def test_all_pairs(self):
        # Areas are at most 64 * 64: each p + q, so each cell of an answer, is within 91.
        radius = 91
        on_screen = {screen: places(*screen, radius) for screen in SCREENS}
        on_answer = {}
        for first, second in itertools.product(SCREENS, repeat=2):
            p, q = self.parts([first, second])
            self.assertLessEqual(p + q, radius)
            if (p, q) not in on_answer:
                on_answer[p, q] = places(p, q, radius)
            self.assertEqual(on_answer[p, q], on_screen[first] & on_screen[second], (first, second))

    def check_triple(self, screens):
        p, q = self.parts(screens)
        # (p, q) and (-q, p) lie within p + q, so the square holds whole cells of the answer.
        radius = p + q
        small, middle, great = sorted(screens, key=area)
        shared = {
            (x, y)
            for x, y in places(*great, radius)
            if on_lattice(*small, x, y) and on_lattice(*middle, x, y)
        }
        self.assertEqual(places(p, q, radius), shared, screens)

    def test_all_triples_of_small_screens(self):
        small = [(a, b) for a, b in SCREENS if a * a + b * b <= 10]
        for screens in itertools.product(small, repeat=3):
            self.check_triple(screens)

    def test_many_triples(self):
        triples = list(itertools.combinations_with_replacement(SCREENS, 3))
        for screens in triples[::11]:
            self.check_triple(screens)

    def test_triples_of_the_greatest_screens(self):
        for screens in (
            [(8, 0), (7, 3), (5, 6)],
            [(5, 6), (6, 5), (7, 2)],
            [(7, 3), (3, 7), (8, 0)],
            [(6, 5), (7, 2), (2, 7)],
        ):
            self.check_triple(screens)

    def test_told_in_another_order(self):
        for first, second in itertools.combinations(SCREENS, 2):
            self.assertEqual(common(told([first, second])), common(told([second, first])))
        triples = list(itertools.combinations(SCREENS, 3))
        for screens in triples[::5]:
            answers = {tuple(common(told(row))) for row in itertools.permutations(screens)}
            self.assertEqual(len(answers), 1, screens)

    def test_screen_told_twice_adds_nothing(self):
        for first, second in itertools.product(SCREENS, repeat=2):
            self.assertEqual(common(told([first, second, second])), common(told([first, second])))


class Edges(unittest.TestCase):
    def test_each_screen_by_its_bounds(self):
        for a in range(0, 12):
            for b in range(0, 12):
                right = 1 <= a <= 8 and b <= 8 and a * a + b * b <= 64
                expected = [a * a + b * b, 0, 2, a, b] if right else REFUSED
                self.assertEqual(common([a, b, 1, 0]), expected)
                self.assertEqual(common([1, 0, a, b]), expected)
                self.assertEqual(common([1, 0, 1, 0, a, b]), expected)

    def test_area_64_and_just_above(self):
        self.assertEqual(common([8, 0, 8, 0]), [64, 0, 2, 8, 0])
        self.assertEqual(common([8, 1, 8, 0]), REFUSED)
        self.assertEqual(common([8, 0, 8, 1]), REFUSED)
        self.assertEqual(common([7, 4, 1, 0]), REFUSED)
        self.assertEqual(common([4, 7, 1, 0]), REFUSED)

    def test_least_a_and_least_b(self):
        self.assertEqual(common([1, 0, 1, 0]), [1, 0, 2, 1, 0])
        self.assertEqual(common([1, 7, 1, 0]), [50, 0, 2, 1, 7])
        self.assertEqual(common([7, 0, 1, 0]), [49, 0, 2, 7, 0])

    def test_b_of_8_is_refused_with_every_a(self):
        for a in range(0, 10):
            self.assertEqual(common([a, 8, 1, 0]), REFUSED)
            self.assertEqual(common([1, 0, a, 8]), REFUSED)


class Refusals(RefusesOtherScreens, unittest.TestCase):
    def given(self, z):
        return common(z)


class CommonByItself(ByItself, unittest.TestCase):
    function = common
    calls = [(z,) for z in SOME_Z]


if __name__ == "__main__":
    unittest.main()
