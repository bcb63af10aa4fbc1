"""Promise 2: joint."""

import itertools
import unittest

from screenbeats.beats import common, joint
from tests.helper import REFUSED, SCREENS, SOME_Z, ByItself, RefusesOtherScreens
from tests.helper import area, class_key, lattice_told, on_lattice, told


def reached(first, others):
    """The classes of the first screen that hold sums of places, one of each of the others."""
    n = area(first)
    found = {(0, 0)}
    for a, b in others:
        # n times a place of any lattice is on the first one: i and j below n are all that count.
        own = {class_key(*first, i * a - j * b, i * b + j * a) for i in range(n) for j in range(n)}
        found = {((x + s) % n, (y + t) % n) for x, y in found for s, t in own}
    return found


class Ordinary(unittest.TestCase):
    def check(self, z, expected):
        self.assertEqual(joint(z), expected)

    def test_two_screens(self):
        self.check([6, 0, 4, 0], [4, 0, 2, 2, 0])
        self.check([4, 2, 6, 3], [5, 0, 2, 2, 1])
        self.check([4, 2, 1, 3], [10, 0, 2, 1, 3])
        self.check([5, 5, 6, 0], [2, 0, 2, 1, 1])
        self.check([6, 3, 3, 6], [9, 0, 2, 3, 0])

    def test_three_screens(self):
        self.check([2, 0, 4, 0, 8, 0], [4, 0, 2, 2, 0])
        self.check([6, 0, 4, 0, 2, 2], [4, 0, 2, 2, 0])
        self.check([4, 2, 6, 3, 3, 4], [5, 0, 2, 2, 1])
        self.check([4, 2, 2, 4, 6, 2], [4, 0, 2, 2, 0])
        self.check([6, 0, 2, 0, 3, 3], [2, 0, 2, 1, 1])

    def test_all_places(self):
        self.check([2, 0, 3, 0], [1, 0, 2, 1, 0])
        self.check([1, 0, 5, 6], [1, 0, 2, 1, 0])
        self.check([8, 0, 7, 2], [1, 0, 2, 1, 0])
        self.check([6, 0, 4, 0, 3, 0], [1, 0, 2, 1, 0])
        self.check([1, 0, 1, 0, 1, 0], [1, 0, 2, 1, 0])

    def test_turned_against_one_another(self):
        self.check([2, 1, 1, 2], [1, 0, 2, 1, 0])
        self.check([3, 1, 1, 3], [2, 0, 2, 1, 1])
        self.check([4, 2, 2, 4], [4, 0, 2, 2, 0])
        self.check([7, 3, 3, 7], [2, 0, 2, 1, 1])

    def test_multiples_of_one_another(self):
        self.check([2, 1, 4, 2], [5, 0, 2, 2, 1])
        self.check([1, 2, 3, 1], [5, 0, 2, 1, 2])
        self.check([1, 1, 2, 0], [2, 0, 2, 1, 1])
        self.check([1, 1, 2, 2, 4, 4], [2, 0, 2, 1, 1])

    def test_screen_with_itself(self):
        for a, b in SCREENS:
            own = [a * a + b * b, 0, 2, a, b]
            self.check([a, b, a, b], own)
            self.check([a, b, a, b, a, b], own)


class Definition(unittest.TestCase):
    def check_sums(self, screens):
        """A place is a sum of places, one of each screen, just if it is on the answer's lattice."""
        p, q = lattice_told(self, joint(told(screens)))
        first = min(screens, key=area)
        others = list(screens)
        others.remove(first)
        classes = reached(first, others)
        # What is a sum comes back after n to the right or upwards, n the first's area.
        for x in range(area(first)):
            for y in range(area(first)):
                is_sum = class_key(*first, x, y) in classes
                self.assertEqual(on_lattice(p, q, x, y), is_sum, (screens, x, y))
        self.assertIn(class_key(*first, p, q), classes)

    def test_all_pairs(self):
        for screens in itertools.product(SCREENS, repeat=2):
            self.check_sums(screens)

    def test_all_triples_of_small_screens(self):
        small = [screen for screen in SCREENS if area(screen) <= 10]
        for screens in itertools.product(small, repeat=3):
            self.check_sums(screens)

    def test_many_triples(self):
        triples = list(itertools.combinations_with_replacement(SCREENS, 3))
        for screens in triples[::11]:
            self.check_sums(screens)

    def test_told_in_another_order(self):
        for first, second in itertools.combinations(SCREENS, 2):
            self.assertEqual(joint(told([first, second])), joint(told([second, first])))
        triples = list(itertools.combinations(SCREENS, 3))
        for screens in triples[::5]:
            answers = {tuple(joint(told(row))) for row in itertools.permutations(screens)}
            self.assertEqual(len(answers), 1, screens)

    def test_screen_told_twice_adds_nothing(self):
        for first, second in itertools.product(SCREENS, repeat=2):
            self.assertEqual(joint(told([first, second, second])), joint(told([first, second])))


class WithCommon(unittest.TestCase):
    def test_areas_product(self):
        for first, second in itertools.product(SCREENS, repeat=2):
            z = told([first, second])
            self.assertEqual(common(z)[0] * joint(z)[0], area(first) * area(second), z)

    def check_within(self, screens):
        """The common lattice is in each screen's, the joint one has each."""
        shared = lattice_told(self, common(told(screens)))
        whole = lattice_told(self, joint(told(screens)))
        # A lattice lies in another just if its two steps do: all else of it is sums of these.
        for a, b in screens:
            for x, y in (shared, (-shared[1], shared[0])):
                self.assertTrue(on_lattice(a, b, x, y), screens)
            for x, y in ((a, b), (-b, a)):
                self.assertTrue(on_lattice(*whole, x, y), screens)

    def test_common_in_each_and_joint_has_each(self):
        for screens in itertools.product(SCREENS, repeat=2):
            self.check_within(screens)
        triples = list(itertools.product(SCREENS, repeat=3))
        for screens in triples[::13]:
            self.check_within(screens)


class Edges(unittest.TestCase):
    def test_each_screen_by_its_bounds(self):
        for a in range(0, 12):
            for b in range(0, 12):
                right = 1 <= a <= 8 and b <= 8 and a * a + b * b <= 64
                expected = [1, 0, 2, 1, 0] if right else REFUSED
                self.assertEqual(joint([a, b, 1, 0]), expected)
                self.assertEqual(joint([1, 0, a, b]), expected)
                self.assertEqual(joint([1, 0, 1, 0, a, b]), expected)

    def test_area_64_and_just_above(self):
        self.assertEqual(joint([8, 0, 8, 0]), [64, 0, 2, 8, 0])
        self.assertEqual(joint([8, 0, 8, 0, 8, 0]), [64, 0, 2, 8, 0])
        self.assertEqual(joint([8, 1, 8, 0]), REFUSED)
        self.assertEqual(joint([8, 0, 8, 1]), REFUSED)
        self.assertEqual(joint([7, 4, 7, 4]), REFUSED)
        self.assertEqual(joint([4, 7, 4, 7]), REFUSED)

    def test_least_a_and_least_b(self):
        self.assertEqual(joint([1, 7, 1, 7]), [50, 0, 2, 1, 7])
        self.assertEqual(joint([1, 7, 5, 0]), [5, 0, 2, 1, 2])
        self.assertEqual(joint([7, 0, 7, 0]), [49, 0, 2, 7, 0])

    def test_b_of_8_is_refused_with_every_a(self):
        for a in range(0, 10):
            self.assertEqual(joint([a, 8, a, 8]), REFUSED)
            self.assertEqual(joint([a, 8, 1, 0]), REFUSED)
            self.assertEqual(joint([1, 0, a, 8]), REFUSED)


class Refusals(RefusesOtherScreens, unittest.TestCase):
    def given(self, z):
        return joint(z)


class JointByItself(ByItself, unittest.TestCase):
    function = joint
    calls = [(z,) for z in SOME_Z]


if __name__ == "__main__":
    unittest.main()
