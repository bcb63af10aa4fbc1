"""Promise 1: common."""

import contextlib
import io
import itertools
import unittest

from screenbeats.beats import common

REFUSED = [-1, 0, 0]
HUGE = 18446744073709551615
SCREENS = [(a, b) for a in range(1, 9) for b in range(0, 9) if a * a + b * b <= 64]


def told(screens):
    return [number for screen in screens for number in screen]


def places(a, b, radius):
    """The places i (a, b) + j (-b, a) with x and y from -radius to radius."""
    # i is (a x + b y) / n and j is (a y - b x) / n, so none lies outside this.
    most = radius * (a + b) // (a * a + b * b)
    turns = range(-most, most + 1)
    found = set()
    for i in turns:
        for j in turns:
            x, y = i * a - j * b, i * b + j * a
            if abs(x) <= radius and abs(y) <= radius:
                found.add((x, y))
    return found


def on_lattice(a, b, x, y):
    n = a * a + b * b
    return (a * x + b * y) % n == 0 and (a * y - b * x) % n == 0


class Watched(list):
    """A list that can't be changed, for a while either."""

    def refuse(self, *args, **kwargs):
        raise AssertionError("z was changed")

    __setitem__ = __delitem__ = __iadd__ = __imul__ = refuse
    append = clear = extend = insert = pop = remove = reverse = sort = refuse


class Ordinary(unittest.TestCase):
    def check(self, z, expected):
        self.assertEqual(common(z), expected)

    def test_two_screens(self):
        self.check([2, 0, 3, 0], [36, 0, 2, 6, 0])
        self.check([1, 1, 2, 0], [4, 0, 2, 2, 0])
        self.check([1, 1, 3, 0], [18, 0, 2, 3, 3])
        self.check([1, 1, 2, 1], [10, 0, 2, 1, 3])
        self.check([6, 0, 4, 0], [144, 0, 2, 12, 0])

    def test_three_screens(self):
        self.check([2, 0, 3, 0, 5, 0], [900, 0, 2, 30, 0])
        self.check([2, 1, 1, 2, 1, 1], [50, 0, 2, 5, 5])
        self.check([2, 0, 4, 0, 8, 0], [64, 0, 2, 8, 0])
        self.check([1, 0, 1, 0, 1, 0], [1, 0, 2, 1, 0])
        self.check([8, 0, 7, 0, 5, 0], [78400, 0, 2, 280, 0])

    def test_turned_against_one_another(self):
        self.check([2, 1, 1, 2], [25, 0, 2, 5, 0])
        self.check([3, 1, 1, 3], [50, 0, 2, 5, 5])
        self.check([3, 2, 2, 3], [169, 0, 2, 13, 0])

    def test_multiples_of_one_another(self):
        self.check([2, 1, 4, 2], [20, 0, 2, 4, 2])
        self.check([1, 2, 3, 1], [10, 0, 2, 3, 1])
        self.check([1, 0, 5, 3], [34, 0, 2, 5, 3])
        self.check([1, 1, 2, 2, 4, 4], [32, 0, 2, 4, 4])

    def test_screen_with_itself(self):
        for a, b in SCREENS:
            own = [a * a + b * b, 0, 2, a, b]
            self.check([a, b, a, b], own)
            self.check([a, b, a, b, a, b], own)

    def test_answer_is_a_list_of_whole_numbers(self):
        for z in ([1, 0, 1, 0], [2, 1, 1, 2, 1, 1], [], [1, 0]):
            given = common(z)
            self.assertIs(type(given), list)
            self.assertEqual({type(number) for number in given}, {int})


class Definition(unittest.TestCase):
    def parts(self, screens):
        """p and q of the answer, once its form is seen to be right."""
        given = common(told(screens))
        self.assertEqual(len(given), 5, screens)
        area, count, rest, p, q = given
        self.assertEqual((count, rest), (0, 2), screens)
        self.assertGreaterEqual(p, 1, screens)
        self.assertGreaterEqual(q, 0, screens)
        self.assertEqual(area, p * p + q * q, screens)
        return p, q

    def test_all_pairs(self):
        # Areas are at most 64 * 64: each p + q, so each cell of an answer, is within 91.
        radius = 91
        on_screen = {screen: places(*screen, radius) for screen in SCREENS}
        on_answer = {}
        for first, second in itertools.product(SCREENS, repeat=2):
            p, q = self.parts([first, second])
            self.assertLessEqual(p + q, radius)
            if (p, q) not in on_answer:
                on_answer[p, q] = places(p, q, radius)
            self.assertEqual(on_answer[p, q], on_screen[first] & on_screen[second], (first, second))

    def check_triple(self, screens):
        p, q = self.parts(screens)
        # (p, q) and (-q, p) lie within p + q, so the square holds whole cells of the answer.
        radius = p + q
        small, middle, great = sorted(screens, key=lambda screen: screen[0] ** 2 + screen[1] ** 2)
        shared = {
            (x, y)
            for x, y in places(*great, radius)
            if on_lattice(*small, x, y) and on_lattice(*middle, x, y)
        }
        self.assertEqual(places(p, q, radius), shared, screens)

    def test_all_triples_of_small_screens(self):
        small = [(a, b) for a, b in SCREENS if a * a + b * b <= 10]
        for screens in itertools.product(small, repeat=3):
            self.check_triple(screens)

    def test_many_triples(self):
        triples = list(itertools.combinations_with_replacement(SCREENS, 3))
        for screens in triples[::11]:
            self.check_triple(screens)

    def test_triples_of_the_greatest_screens(self):
        for screens in (
            [(8, 0), (7, 3), (5, 6)],
            [(5, 6), (6, 5), (7, 2)],
            [(7, 3), (3, 7), (8, 0)],
            [(6, 5), (7, 2), (2, 7)],
        ):
            self.check_triple(screens)

    def test_told_in_another_order(self):
        for first, second in itertools.combinations(SCREENS, 2):
            self.assertEqual(common(told([first, second])), common(told([second, first])))
        triples = list(itertools.combinations(SCREENS, 3))
        for screens in triples[::5]:
            answers = {tuple(common(told(row))) for row in itertools.permutations(screens)}
            self.assertEqual(len(answers), 1, screens)

    def test_screen_told_twice_adds_nothing(self):
        for first, second in itertools.product(SCREENS, repeat=2):
            self.assertEqual(common(told([first, second, second])), common(told([first, second])))


class Edges(unittest.TestCase):
    def test_each_screen_by_its_bounds(self):
        for a in range(0, 12):
            for b in range(0, 12):
                right = 1 <= a <= 8 and b <= 8 and a * a + b * b <= 64
                expected = [a * a + b * b, 0, 2, a, b] if right else REFUSED
                self.assertEqual(common([a, b, 1, 0]), expected)
                self.assertEqual(common([1, 0, a, b]), expected)
                self.assertEqual(common([1, 0, 1, 0, a, b]), expected)

    def test_area_64_and_just_above(self):
        self.assertEqual(common([8, 0, 8, 0]), [64, 0, 2, 8, 0])
        self.assertEqual(common([8, 1, 8, 0]), REFUSED)
        self.assertEqual(common([8, 0, 8, 1]), REFUSED)
        self.assertEqual(common([7, 4, 1, 0]), REFUSED)
        self.assertEqual(common([4, 7, 1, 0]), REFUSED)

    def test_least_a_and_least_b(self):
        self.assertEqual(common([1, 0, 1, 0]), [1, 0, 2, 1, 0])
        self.assertEqual(common([1, 7, 1, 0]), [50, 0, 2, 1, 7])
        self.assertEqual(common([7, 0, 1, 0]), [49, 0, 2, 7, 0])

    def test_b_of_8_is_refused_with_every_a(self):
        for a in range(0, 10):
            self.assertEqual(common([a, 8, 1, 0]), REFUSED)
            self.assertEqual(common([1, 0, a, 8]), REFUSED)


class Refusals(unittest.TestCase):
    def test_other_numbers_of_numbers(self):
        for many in range(0, 65):
            z = ([1, 0] * 32)[:many]
            expected = [1, 0, 2, 1, 0] if many in (4, 6) else REFUSED
            self.assertEqual(common(z), expected, many)

    def test_wrong_numbers_in_each_place(self):
        for z in ([2, 1, 3, 0], [2, 1, 3, 0, 1, 1]):
            self.assertNotEqual(common(z), REFUSED)
            for k in range(len(z)):
                wrong = [9, 64, 65, 256, 2 ** 32 + 1, 2 ** 63, 2 ** 64 - 8, HUGE]
                for number in wrong + ([0] if k % 2 == 0 else []):
                    changed = z[:k] + [number] + z[k + 1:]
                    self.assertEqual(common(changed), REFUSED, changed)

    def test_great_numbers_everywhere(self):
        for many in (0, 1, 2, 3, 4, 5, 6, 7, 8, 64):
            self.assertEqual(common([HUGE] * many), REFUSED)
            self.assertEqual(common([0] * many), REFUSED)


class ByItself(unittest.TestCase):
    CALLS = (
        [2, 1, 1, 2], [8, 0, 7, 3], [2, 1, 1, 2, 1, 1], [5, 6, 6, 5, 7, 2],
        [], [1], [1, 0], [1, 0, 1], [1, 0, 1, 0, 1], [0, 1, 1, 0], [8, 1, 1, 0], [1, 0, 1, 0, 9, 0],
        [HUGE] * 4, [1, 0] * 32,
    )

    def test_z_is_not_changed(self):
        for numbers in self.CALLS:
            z = list(numbers)
            common(z)
            self.assertEqual(z, numbers)

    def test_z_is_not_changed_for_a_while(self):
        for numbers in self.CALLS:
            self.assertEqual(common(Watched(numbers)), common(list(numbers)))

    def test_the_same_call_gives_the_same(self):
        first = [common(list(numbers)) for numbers in self.CALLS]
        again = [common(list(numbers)) for numbers in reversed(self.CALLS)]
        self.assertEqual(first, again[::-1])

    def test_the_given_list_may_be_changed(self):
        for numbers in self.CALLS:
            z = list(numbers)
            given = common(z)
            kept = list(given)
            given[0] = 77
            given.append(5)
            self.assertEqual(common(z), kept)
            self.assertEqual(z, numbers)

    def test_nothing_is_printed_or_read(self):
        out, err = io.StringIO(), io.StringIO()
        with contextlib.redirect_stdout(out), contextlib.redirect_stderr(err):
            for numbers in self.CALLS:
                common(list(numbers))
        self.assertEqual((out.getvalue(), err.getvalue()), ("", ""))


if __name__ == "__main__":
    unittest.main()
