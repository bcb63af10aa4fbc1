"""Promise 3: meet."""

import itertools
import unittest

from screenbeats.beats import common, joint, meet
from tests.helper import HUGE, NONE, REFUSED, SCREENS, SOME_Z, ByItself, RefusesOtherScreens
from tests.helper import area, cell, class_number, told

GREAT = (
    ((7, 3), (3, 7)), ((5, 6), (6, 5)), ((8, 0), (7, 0)), ((7, 0), (8, 0)), ((8, 0), (6, 5)), ((2, 7), (7, 2)),
    ((8, 0), (8, 0)), ((6, 4), (4, 6)), ((5, 5), (7, 1)), ((6, 3), (3, 6)), ((4, 4), (8, 0)), ((1, 7), (7, 1)),
)


def lattice_of(call, first, second):
    return tuple(call(told([first, second]))[3:])


class Ordinary(unittest.TestCase):
    def check(self, c, d, z, expected):
        self.assertEqual(meet(c, d, z), expected)

    def test_joint_lattice_of_all_places(self):
        # Places of even x and even y, and of every third: the cell is 6 wide, 6 high.
        self.check(0, 0, [2, 0, 3, 0], [0, 0, 2, 0, 0])
        self.check(1, 0, [2, 0, 3, 0], [3, 0, 2, 3, 0])
        self.check(2, 0, [2, 0, 3, 0], [18, 0, 2, 0, 3])
        self.check(3, 8, [2, 0, 3, 0], [35, 0, 2, 5, 5])
        self.check(8, 3, [3, 0, 2, 0], [35, 0, 2, 5, 5])
        # The class is x - 2 y in fives, then x + 2 y in fives: the cell is 5 wide, 5 high.
        self.check(1, 0, [2, 1, 1, 2], [8, 0, 2, 3, 1])
        self.check(0, 1, [2, 1, 1, 2], [23, 0, 2, 3, 4])
        self.check(3, 4, [2, 1, 1, 2], [21, 0, 2, 1, 4])

    def test_joint_lattice_of_some_places(self):
        self.check(0, 0, [2, 0, 4, 0], [0, 0, 2, 0, 0])
        self.check(1, 1, [2, 0, 4, 0], [1, 0, 2, 1, 0])
        self.check(1, 3, [2, 0, 4, 0], [3, 0, 2, 3, 0])
        self.check(1, 2, [2, 0, 4, 0], NONE)
        self.check(3, 15, [2, 0, 4, 0], [15, 0, 2, 3, 3])
        self.check(2, 15, [2, 0, 4, 0], NONE)
        self.check(0, 1, [1, 1, 3, 1], NONE)
        self.check(1, 1, [1, 1, 3, 1], [1, 0, 2, 1, 0])

    def test_screen_with_itself(self):
        for a, b in SCREENS:
            wide, high = cell(a, b)
            for c in range(area((a, b))):
                self.check(c, c, [a, b, a, b], [c, 0, 2, c % wide, c // wide])
            for c, d in itertools.permutations(range(min(area((a, b)), 12)), 2):
                self.check(c, d, [a, b, a, b], NONE)

    def test_cells_of_several_rows(self):
        # (2, 2) has (4, 0) and (2, 2): a cell 4 wide, 2 high.
        self.check(0, 4, [1, 0, 2, 2], [4, 0, 2, 0, 1])
        self.check(0, 7, [1, 0, 2, 2], [7, 0, 2, 3, 1])
        self.check(7, 0, [2, 2, 1, 0], [7, 0, 2, 3, 1])
        # (4, 2) has (10, 0) and (-2, 4), so (8, 4) and (4, 2): a cell 10 wide, 2 high.
        self.check(2, 13, [2, 1, 4, 2], NONE)
        self.check(1, 13, [2, 1, 4, 2], [13, 0, 2, 3, 1])


class Definition(unittest.TestCase):
    def check_pair(self, first, second):
        """Each two classes against every place of the common cell."""
        wide, high = cell(*lattice_of(common, first, second))
        found = {}
        for y in range(high):
            for x in range(wide):
                classes = class_number(*first, x, y), class_number(*second, x, y)
                self.assertNotIn(classes, found)
                found[classes] = [y * wide + x, 0, 2, x, y]
        z = told([first, second])
        for c in range(area(first)):
            for d in range(area(second)):
                self.assertEqual(meet(c, d, z), found.get((c, d), NONE), (c, d, z))

    def test_all_pairs_of_smaller_screens(self):
        smaller = [screen for screen in SCREENS if area(screen) <= 29]
        for first, second in itertools.product(smaller, repeat=2):
            self.check_pair(first, second)

    def test_many_pairs(self):
        pairs = list(itertools.product(SCREENS, repeat=2))
        for first, second in pairs[::17]:
            self.check_pair(first, second)

    def test_great_cells(self):
        for first, second in GREAT:
            self.check_pair(first, second)


class WithJoint(unittest.TestCase):
    def check_pair(self, first, second):
        """Classes meet just if they lie in one class of the joint lattice."""
        lattice = lattice_of(joint, first, second)
        z = told([first, second])
        wide, second_wide = cell(*first)[0], cell(*second)[0]
        for c in range(area(first)):
            of_c = class_number(*lattice, c % wide, c // wide)
            for d in range(area(second)):
                of_d = class_number(*lattice, d % second_wide, d // second_wide)
                self.assertEqual(meet(c, d, z) != NONE, of_c == of_d, (c, d, z))

    def test_all_pairs_of_smaller_screens(self):
        smaller = [screen for screen in SCREENS if area(screen) <= 20]
        for first, second in itertools.product(smaller, repeat=2):
            self.check_pair(first, second)

    def test_great_screens(self):
        for first, second in GREAT:
            self.check_pair(first, second)

    def test_each_two_meet_where_the_joint_lattice_is_all_places(self):
        pairs = [pair for pair in itertools.product(SCREENS, repeat=2) if lattice_of(joint, *pair) == (1, 0)]
        for first, second in pairs[::13]:
            z = told([first, second])
            numbers = [meet(c, d, z)[0] for c in range(area(first)) for d in range(area(second))]
            self.assertEqual(sorted(numbers), list(range(area(first) * area(second))), z)


class WithCommon(unittest.TestCase):
    def test_places_of_both_are_one_class_of_the_common_lattice(self):
        for first, second in (((2, 0), (3, 0)), ((2, 1), (4, 2)), ((2, 2), (3, 1)), ((3, 0), (3, 3)), ((1, 2), (2, 1))):
            lattice = lattice_of(common, first, second)
            z = told([first, second])
            for x, y in itertools.product(range(-25, 26), repeat=2):
                c, d = class_number(*first, x, y), class_number(*second, x, y)
                self.assertEqual(meet(c, d, z)[0], class_number(*lattice, x, y), (x, y, z))


class Edges(unittest.TestCase):
    def test_least_classes_meet_at_the_corner(self):
        for screens in itertools.product(SCREENS, repeat=2):
            self.assertEqual(meet(0, 0, told(screens)), [0, 0, 2, 0, 0])

    def test_classes_by_their_own_screen(self):
        for first, second in itertools.product(SCREENS, repeat=2):
            z = told([first, second])
            n, m = area(first), area(second)
            self.assertNotEqual(meet(n - 1, 0, z), REFUSED, z)
            self.assertNotEqual(meet(0, m - 1, z), REFUSED, z)
            self.assertNotEqual(meet(n - 1, m - 1, z), REFUSED, z)
            self.assertEqual(meet(n, 0, z), REFUSED, z)
            self.assertEqual(meet(0, m, z), REFUSED, z)
            self.assertEqual(meet(n, m, z), REFUSED, z)

    def test_unlike_areas(self):
        self.assertEqual(meet(4, 63, [2, 1, 8, 0]), [303, 0, 2, 23, 7])
        self.assertEqual(meet(63, 4, [8, 0, 2, 1]), [303, 0, 2, 23, 7])
        self.assertEqual(meet(63, 4, [2, 1, 8, 0]), REFUSED)
        self.assertEqual(meet(4, 63, [8, 0, 2, 1]), REFUSED)
        self.assertEqual(meet(5, 63, [2, 1, 8, 0]), REFUSED)
        self.assertEqual(meet(4, 64, [2, 1, 8, 0]), REFUSED)

    def test_refused_ahead_of_apart(self):
        self.assertEqual(meet(0, 1, [2, 0, 2, 0]), NONE)
        for c, d in ((0, 5), (4, 1), (1, 4), (5, 0), (4, 5), (HUGE, 1), (1, HUGE)):
            self.assertEqual(meet(c, d, [2, 0, 2, 0]), REFUSED)


class Refusals(RefusesOtherScreens, unittest.TestCase):
    counts = (4,)
    rights = ([2, 1, 3, 0],)

    def given(self, z):
        return meet(0, 0, z)

    def test_three_screens(self):
        for z in ([2, 1, 3, 0, 1, 1], [1, 0, 1, 0, 1, 0], [8, 0, 8, 0, 8, 0], [2, 1, 1, 2, 2, 1]):
            self.assertNotEqual(meet(0, 0, z[:4]), REFUSED)
            self.assertEqual(meet(0, 0, z), REFUSED)
        self.assertEqual(meet(1, 1, [2, 1, 3, 0, 1, 1]), REFUSED)
        self.assertEqual(meet(0, 1, [2, 0, 2, 0, 1, 0]), REFUSED)

    def test_great_classes(self):
        for number in (64, 65, 255, 2 ** 32, 2 ** 63, 2 ** 64 - 8, HUGE):
            for z in ([2, 1, 3, 0], [8, 0, 8, 0], [1, 0, 1, 0]):
                self.assertEqual(meet(number, 0, z), REFUSED)
                self.assertEqual(meet(0, number, z), REFUSED)
                self.assertEqual(meet(number, number, z), REFUSED)


class MeetByItself(ByItself, unittest.TestCase):
    function = meet
    calls = [(c, d, z) for z in SOME_Z for c, d in ((0, 0), (3, 4), (1, 0), (HUGE, 0), (0, HUGE))]
    calls += [(0, 1, [2, 0, 2, 0]), (63, 63, [8, 0, 8, 0])]


if __name__ == "__main__":
    unittest.main()
