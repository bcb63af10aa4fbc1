"""Promise 4: overlap."""

import functools
import itertools
import random
import time
import unittest

from screenbeats.beats import common, joint, overlap
from tests.helper import HUGE, REFUSED, SCREENS, ByItself
from tests.helper import area, cell, class_number, places, told

LEAST, MOST = -9223372036854775808, 9223372036854775807
WAYS = (0, 1, 2)


def spots(p, q):
    """The places of a lattice's cell, in the order of their classes' numbers."""
    wide, high = cell(p, q)
    return [(x, y) for y in range(high) for x in range(wide)]


@functools.cache
def distances(a, b, way):
    """How far each class is, by its number, by a search of the lattice that is wide enough."""
    n = a * a + b * b
    if way == 2:
        # a y - b x lies from -8 * 64 to 8 * 8, so no m outside this is the best.
        turns = range(-600, 601)
        return [min(abs(a * y - b * x - n * m) for m in turns) for x, y in spots(a, b)]
    # From every place to the nearest of the lattice are at most 8 rows and columns together.
    wide, high = cell(a, b)
    lattice = places(a, b, wide + high + 16)
    measure = (lambda x, y: x * x + y * y) if way == 0 else (lambda x, y: abs(x) + abs(y))
    return [min(measure(x - s, y - t) for s, t in lattice) for x, y in spots(a, b)]


@functools.cache
def ranks(a, b, way):
    """The rank of each class, by its number."""
    far = distances(a, b, way)
    order = sorted(range(len(far)), key=lambda number: (far[number], number))
    return [order.index(number) for number in range(len(far))]


def counted(a, b, way, t, a2, b2, way2, t2, x, y):
    """The dots that both tints have, one by one."""
    many = 0
    for u, v in spots(*common([a, b, a2, b2])[3:]):
        rank = ranks(a, b, way)[class_number(a, b, u, v)]
        rank2 = ranks(a2, b2, way2)[class_number(a2, b2, u + x, v + y)]
        many += rank < t and rank2 < t2
    return many


class Case(unittest.TestCase):
    def check(self, *call):
        self.assertEqual(overlap(*call), [counted(*call), 0, 0], call)


class Ordinary(Case):
    def test_known(self):
        # Every place, then every second one, then those of x and y even.
        self.assertEqual(overlap(1, 0, 0, 1, 1, 0, 0, 1, 0, 0), [1, 0, 0])
        self.assertEqual(overlap(1, 1, 0, 1, 1, 0, 0, 1, 0, 0), [1, 0, 0])
        self.assertEqual(overlap(1, 1, 0, 1, 2, 0, 0, 1, 0, 0), [1, 0, 0])
        self.assertEqual(overlap(1, 1, 0, 1, 2, 0, 0, 1, 1, 0), [0, 0, 0])
        self.assertEqual(overlap(1, 1, 0, 1, 2, 0, 0, 1, 1, 1), [1, 0, 0])
        # Of (2, 0) by ways 0 and 1 stand first (0, 0), (1, 0), (0, 1), (1, 1).
        self.assertEqual(overlap(2, 0, 0, 2, 2, 0, 1, 2, 0, 0), [2, 0, 0])
        self.assertEqual(overlap(2, 0, 0, 2, 2, 0, 1, 2, 0, 1), [0, 0, 0])
        self.assertEqual(overlap(2, 0, 0, 3, 2, 0, 1, 2, 0, 1), [1, 0, 0])
        # By way 2 only the row counts: (0, 0), (1, 0) are 0 far, (0, 1), (1, 1) are 2.
        self.assertEqual(overlap(2, 0, 2, 2, 2, 0, 2, 2, 1, 0), [2, 0, 0])
        self.assertEqual(overlap(2, 0, 2, 2, 2, 0, 2, 2, 0, 1), [0, 0, 0])
        self.assertEqual(overlap(2, 1, 0, 3, 1, 2, 1, 4, 0, 0), [12, 0, 0])

    def test_each_pair_of_ways(self):
        pairs = (
            ((2, 1), (1, 2)), ((3, 0), (2, 0)), ((4, 0), (2, 2)), ((4, 2), (3, 1)), ((3, 3), (3, 3)), ((5, 0), (4, 3)),
            ((2, 4), (4, 2)), ((6, 0), (3, 3)), ((4, 4), (2, 6)),
        )
        for first, second in pairs:
            n, m = area(first), area(second)
            for way, way2 in itertools.product(WAYS, repeat=2):
                for t, t2 in ((1, 1), (n // 2, m // 3), (n // 3, m // 2), (n - 1, m - 1)):
                    for x, y in ((0, 0), (1, 0), (0, 1), (-2, 3)):
                        self.check(*first, way, t, *second, way2, t2, x, y)

    def test_screen_with_itself(self):
        for screen in SCREENS:
            for way in WAYS:
                for t, t2 in ((1, 1), (area(screen) // 2, area(screen) // 3)):
                    self.assertEqual(overlap(*screen, way, t, *screen, way, t2, 0, 0), [min(t, t2), 0, 0])
                    self.check(*screen, way, t, *screen, way, t2, 1, 0)
                    self.check(*screen, way, t, *screen, way, t2, -1, 2)


class HowFar(unittest.TestCase):
    def test_known_distances(self):
        # The tests' own search against what is seen by hand.
        self.assertEqual(distances(2, 1, 0), [0, 1, 1, 1, 1])
        self.assertEqual(distances(3, 0, 0), [0, 1, 1, 1, 2, 2, 1, 2, 2])
        self.assertEqual(distances(3, 0, 1), [0, 1, 1, 1, 2, 2, 1, 2, 2])
        self.assertEqual(distances(4, 0, 0)[:4], [0, 1, 4, 1])
        self.assertEqual(distances(4, 0, 1)[:4], [0, 1, 2, 1])
        self.assertEqual(distances(3, 0, 2), [0, 0, 0, 3, 3, 3, 3, 3, 3])
        self.assertEqual(distances(2, 1, 2), [0, 1, 2, 2, 1])
        self.assertEqual(ranks(2, 1, 2), [0, 1, 3, 4, 2])

    def test_each_class_of_each_screen_by_each_way(self):
        # A tint of tone 1 has the lattice's own places alone: shifted onto a class, it is a dot with the other tint
        # just if the class is of a rank below the other's tone.
        for (a, b), way in itertools.product(SCREENS, WAYS):
            for number, (x, y) in enumerate(spots(a, b)):
                rank = ranks(a, b, way)[number]
                for t, expected in ((rank, 0), (rank + 1, 1)):
                    self.assertEqual(overlap(a, b, way, t, a, b, 2, 1, -x, -y), [expected, 0, 0], (a, b, way, x, y))
                    self.assertEqual(overlap(a, b, 2, 1, a, b, way, t, x, y), [expected, 0, 0], (a, b, way, x, y))

    def test_ways_by_which_classes_stand_otherwise(self):
        # Some screens stand otherwise by each two ways, so that no way can stand for another.
        for way, other in itertools.combinations(WAYS, 2):
            self.assertTrue([1 for a, b in SCREENS if ranks(a, b, way) != ranks(a, b, other)])


class Definition(Case):
    def test_all_pairs_of_small_screens(self):
        small = [screen for screen in SCREENS if area(screen) <= 10]
        for first, second in itertools.product(small, repeat=2):
            for way, way2 in itertools.product(WAYS, repeat=2):
                for t, t2 in itertools.product((1, area(first) // 2, area(first) - 1), (1, area(second) // 2)):
                    self.check(*first, way, t, *second, way2, t2, 1, 2)

    def test_all_tones_and_offsets_of_some(self):
        for first, second in (((2, 0), (1, 1)), ((2, 2), (2, 0)), ((2, 1), (2, 1)), ((3, 0), (1, 2))):
            tones = range(area(first) + 1), range(area(second) + 1)
            for way, way2, t, t2 in itertools.product((0, 2), (1, 2), *tones):
                for x, y in itertools.product((-2, -1, 0, 1, 5), repeat=2):
                    self.check(*first, way, t, *second, way2, t2, x, y)

    def test_many(self):
        source = random.Random(4)
        for number in range(1200):
            first, second = source.choice(SCREENS), source.choice(SCREENS)
            t, t2 = source.randint(0, area(first)), source.randint(0, area(second))
            wide = source.choice((2, 9, 100, MOST))
            x, y = source.randint(-wide, wide), source.randint(-wide, wide)
            self.check(*first, number % 3, t, *second, number // 3 % 3, t2, x, y)


class WithJoint(unittest.TestCase):
    def pairs(self, all_places):
        return [pair for pair in itertools.product(SCREENS, repeat=2) if (joint(told(pair))[0] == 1) == all_places]

    def test_product_where_the_joint_lattice_is_all_places(self):
        source = random.Random(5)
        for first, second in self.pairs(True):
            way, way2 = source.choice(WAYS), source.choice(WAYS)
            s, t = source.randint(0, area(first)), source.randint(0, area(second))
            x, y = source.choice(((0, 0), (1, 0), (-3, 7), (LEAST, MOST), (source.randint(-99, 99), 4)))
            self.assertEqual(overlap(*first, way, s, *second, way2, t, x, y), [s * t, 0, 0], (first, second))

    def test_product_whatever_the_offsets(self):
        for x, y in itertools.product(range(-4, 9), repeat=2):
            self.assertEqual(overlap(2, 1, 0, 3, 3, 0, 2, 5, x, y), [15, 0, 0])
            self.assertEqual(overlap(4, 0, 1, 7, 3, 0, 0, 4, x, y), [28, 0, 0])

    def test_sum_over_offsets(self):
        source = random.Random(6)
        for first, second in self.pairs(False)[::5]:
            p, q = joint(told([first, second]))[3:]
            way, way2 = source.choice(WAYS), source.choice(WAYS)
            s, t = source.randint(0, area(first)), source.randint(0, area(second))
            together = 0
            for x, y in spots(p, q):
                # Another place of the same class of the joint lattice will do.
                i, j = source.randint(-5, 5), source.randint(-5, 5)
                x, y = x + i * p - j * q, y + i * q + j * p
                together += overlap(*first, way, s, *second, way2, t, x, y)[0]
            self.assertEqual(together, s * t, (first, second, way, s, way2, t))

    def test_offsets_of_one_joint_class_give_the_same(self):
        for first, second in self.pairs(False)[::41]:
            p, q = joint(told([first, second]))[3:]
            tints = *first, 0, area(first) // 2, *second, 1, area(second) // 2
            self.assertEqual(overlap(*tints, 3 + p, 1 + q), overlap(*tints, 3, 1))
            self.assertEqual(overlap(*tints, 3 - q, 1 + p), overlap(*tints, 3, 1))


class Edges(Case):
    def test_least_and_greatest_tones(self):
        for first, second in itertools.product(SCREENS, repeat=2):
            n, m = area(first), area(second)
            places_of_cell = common(told([first, second]))[0]
            self.assertEqual(overlap(*first, 2, 0, *second, 2, m, 1, 1), [0, 0, 0])
            self.assertEqual(overlap(*first, 2, n, *second, 2, 0, 1, 1), [0, 0, 0])
            self.assertEqual(overlap(*first, 2, n, *second, 2, m, 1, 1), [places_of_cell, 0, 0])
            self.assertEqual(overlap(*first, 2, n + 1, *second, 2, m, 1, 1), REFUSED)
            self.assertEqual(overlap(*first, 2, n, *second, 2, m + 1, 1, 1), REFUSED)

    def test_a_whole_tint_with_another(self):
        # A common cell has as many dots of a tint of tone t as it has cells of its screen, t times.
        for first, second in (((4, 0), (2, 2)), ((7, 3), (3, 7)), ((3, 3), (6, 0))):
            many = common(told([first, second]))[0]
            for t in range(area(first) + 1):
                expected = [t * many // area(first), 0, 0]
                self.assertEqual(overlap(*first, 0, t, *second, 1, area(second), 2, 3), expected)
                self.assertEqual(overlap(*second, 1, area(second), *first, 0, t, 2, 3), expected)

    def test_greatest_area(self):
        for way, way2 in itertools.product(WAYS, repeat=2):
            self.check(8, 0, way, 64, 8, 0, way2, 64, 0, 0)
            self.check(8, 0, way, 31, 8, 0, way2, 33, 3, 4)
            self.check(8, 0, way, 31, 7, 3, way2, 57, 3, 4)

    def test_greatest_and_least_offsets(self):
        for first, second in (((4, 0), (2, 2)), ((3, 1), (4, 2)), ((8, 0), (6, 2)), ((5, 5), (7, 1)), ((6, 3), (6, 3))):
            for x, y in itertools.product((LEAST, LEAST + 1, MOST - 1, MOST, 0), repeat=2):
                self.check(*first, 0, area(first) // 2, *second, 1, area(second) // 3, x, y)

    def test_offsets_that_differ_by_a_place_of_the_second(self):
        for first, (a, b) in itertools.product(((4, 0), (3, 1), (2, 4), (6, 0)), ((2, 2), (4, 2), (5, 5))):
            tints = *first, 0, area(first) // 2, a, b, 1, (a * a + b * b) // 3
            for i, j in ((1, 0), (0, 1), (-1, 0), (7, -9), (2 ** 58, -2 ** 59)):
                x, y = i * a - j * b, i * b + j * a
                self.assertEqual(overlap(*tints, 1 + x, 2 + y), overlap(*tints, 1, 2))


class Refusals(unittest.TestCase):
    # a, b, way, t, a2, b2, way2, t2, x, y
    RIGHT = (2, 1, 0, 3, 3, 0, 1, 4, 5, -6)

    def refused(self, place, number, right=RIGHT):
        call = right[:place] + (number,) + right[place + 1:]
        self.assertEqual(overlap(*call), REFUSED, call)

    def test_right(self):
        self.assertEqual(overlap(*self.RIGHT), [12, 0, 0])

    def test_screens_that_are_none(self):
        for place in (0, 4):
            for a in range(0, 12):
                for b in range(0, 12):
                    call = list(self.RIGHT)
                    call[place], call[place + 1], call[place + 3] = a, b, 1
                    right = 1 <= a <= 8 and b <= 8 and a * a + b * b <= 64
                    self.assertEqual(overlap(*call) != REFUSED, right, call)

    def test_no_tone_makes_a_screen_right(self):
        for a, b in ((0, 1), (0, 0), (9, 0), (8, 1), (7, 4), (1, 8), (4, 7), (HUGE, 0), (1, HUGE)):
            for t in (0, 1, 64, 65, a * a + b * b):
                self.assertEqual(overlap(a, b, 0, t, 1, 0, 0, 1, 0, 0), REFUSED)
                self.assertEqual(overlap(1, 0, 0, 1, a, b, 0, t, 0, 0), REFUSED)

    def test_ways(self):
        for place in (2, 6):
            for way in WAYS:
                call = self.RIGHT[:place] + (way,) + self.RIGHT[place + 1:]
                self.assertNotEqual(overlap(*call), REFUSED)
            for way in (3, 4, 255, 256, 2 ** 32, 2 ** 63):
                self.refused(place, way)

    def test_tones_of_their_own_screen(self):
        small, great = (2, 1), (8, 0)
        for t in (6, 7, 64):
            self.assertEqual(overlap(*small, 0, t, *great, 0, 1, 0, 0), REFUSED)
            self.assertEqual(overlap(*great, 0, 1, *small, 0, t, 0, 0), REFUSED)
        self.assertEqual(overlap(*small, 0, 5, *great, 0, 64, 0, 0), [320, 0, 0])
        self.assertEqual(overlap(*great, 0, 64, *small, 0, 5, 0, 0), [320, 0, 0])
        self.assertEqual(overlap(*great, 0, 65, *great, 0, 64, 0, 0), REFUSED)
        self.assertEqual(overlap(*great, 0, 64, *great, 0, 65, 0, 0), REFUSED)

    def test_great_numbers_in_each_place(self):
        for place in range(8):
            for number in (65, 2 ** 32 + 1, 2 ** 63, 2 ** 64 - 8, HUGE):
                self.refused(place, number)
        self.assertEqual(overlap(*[HUGE] * 8, MOST, LEAST), REFUSED)
        self.assertEqual(overlap(*[0] * 10), REFUSED)


class OverlapByItself(ByItself, unittest.TestCase):
    function = overlap
    calls = [
        (2, 1, 0, 3, 3, 0, 1, 4, 5, -6), (4, 0, 1, 9, 2, 2, 2, 5, LEAST, MOST), (8, 0, 2, 30, 7, 3, 0, 50, 1, 1),
        (2, 1, 0, 0, 3, 0, 1, 0, 0, 0), (8, 1, 0, 3, 3, 0, 1, 4, 0, 0), (2, 1, 3, 3, 3, 0, 1, 4, 0, 0),
        (2, 1, 0, 6, 3, 0, 1, 4, 0, 0), (2, 1, 0, 3, 3, 0, 1, 10, 0, 0), (HUGE,) * 8 + (0, 0), (0,) * 10,
    ]


class InAMoment(unittest.TestCase):
    def test_great_screens(self):
        for first, second in (((7, 3), (3, 7)), ((8, 0), (7, 3)), ((5, 6), (6, 5)), ((8, 0), (8, 0))):
            begun = time.perf_counter()
            overlap(*first, 0, area(first) // 2, *second, 1, area(second) // 2, LEAST, MOST)
            self.assertLess(time.perf_counter() - begun, 2)


if __name__ == "__main__":
    unittest.main()
