"""What several tests share: the screens, a lattice by its definition, and what is asked of every call."""

import contextlib
import functools
import io
import itertools
import math
import time
from fractions import Fraction

REFUSED = [-1, 0, 0]
NONE = [-4, 0, 0]
HUGE = 18446744073709551615
ORDERS = range(1, 9)
SCREENS = [(a, b) for a in range(1, 9) for b in range(0, 9) if a * a + b * b <= 64]


# Right and wrong z, for what is asked of every call that takes one.
SOME_Z = (
    [2, 1, 1, 2], [8, 0, 7, 3], [2, 1, 1, 2, 1, 1], [5, 6, 6, 5, 7, 2],
    [], [1], [1, 0], [1, 0, 1], [1, 0, 1, 0, 1], [0, 1, 1, 0], [8, 1, 1, 0], [1, 0, 1, 0, 9, 0],
    [HUGE] * 4, [1, 0] * 32,
)


def area(screen):
    return screen[0] ** 2 + screen[1] ** 2


def told(screens):
    return [number for screen in screens for number in screen]


def places(a, b, radius):
    """The places i (a, b) + j (-b, a) with x and y from -radius to radius."""
    # i is (a x + b y) / n and j is (a y - b x) / n, so none lies outside this.
    most = radius * (a + b) // (a * a + b * b)
    turns = range(-most, most + 1)
    found = set()
    for i in turns:
        for j in turns:
            x, y = i * a - j * b, i * b + j * a
            if abs(x) <= radius and abs(y) <= radius:
                found.add((x, y))
    return found


def class_key(a, b, x, y):
    """The same for two places just if they are of one class; (0, 0) just on the lattice."""
    n = a * a + b * b
    return ((a * x + b * y) % n, (a * y - b * x) % n)


def on_lattice(a, b, x, y):
    return class_key(a, b, x, y) == (0, 0)


def cell(p, q):
    """How wide and how high a lattice's cell is."""
    high = math.gcd(p, q)
    return (p * p + q * q) // high, high


@functools.cache
def class_numbers(a, b):
    """The number of each class, by its key; each class is there just once."""
    wide, high = cell(a, b)
    numbers = {class_key(a, b, x, y): y * wide + x for y in range(high) for x in range(wide)}
    assert len(numbers) == a * a + b * b == wide * high
    return numbers


def class_number(a, b, x, y):
    return class_numbers(a, b)[class_key(a, b, x, y)]


def harmonics(h):
    """The harmonics of order h, in their order."""
    square = range(-h, h + 1)
    found = [(i, j) for i in square for j in square if (i, j) != (0, 0) and i * i + j * j <= h]
    return sorted(found, key=lambda harmonic: (area(harmonic), harmonic))


@functools.cache
def wave(screen, harmonic):
    (a, b), (i, j) = screen, harmonic
    return Fraction(a * i - b * j, a * a + b * b), Fraction(b * i + a * j, a * a + b * b)


def beat_square(screens, row):
    """The square of the beat of a row of harmonics, one of each screen."""
    waves = [wave(screen, harmonic) for screen, harmonic in zip(screens, row)]
    return sum(x for x, y in waves) ** 2 + sum(y for x, y in waves) ** 2


def all_beats(screens, h):
    """Each row of harmonics of order h with its square, in the order of rows."""
    return [(beat_square(screens, row), row) for row in itertools.product(harmonics(h), repeat=len(screens))]


def of_order(beats, h):
    """Of the beats of a greater order those of order h, in the same order."""
    return [(square, row) for square, row in beats if all(i * i + j * j <= h for i, j in row)]


def lattice_told(case, given):
    """p and q of an answer that tells a lattice, once its form is seen to be right."""
    case.assertEqual(len(given), 5, given)
    number, count, rest, p, q = given
    case.assertEqual((count, rest), (0, 2), given)
    case.assertGreaterEqual(p, 1, given)
    case.assertGreaterEqual(q, 0, given)
    case.assertEqual(number, p * p + q * q, given)
    return p, q


class Watched(list):
    """A list that can't be changed, for a while either."""

    def refuse(self, *args, **kwargs):
        raise AssertionError("z was changed")

    __setitem__ = __delitem__ = __iadd__ = __imul__ = refuse
    append = clear = extend = insert = pop = remove = reverse = sort = refuse


class RefusesOtherScreens:
    """What z may not be. A test case has `given(z)`, the call with all else right, and `rights`, some right z."""

    counts = (4, 6)
    rights = ([2, 1, 3, 0], [2, 1, 3, 0, 1, 1])

    def refused(self, z):
        self.assertEqual(self.given(z), REFUSED, z)

    def not_refused(self, z):
        self.assertNotEqual(self.given(z), REFUSED, z)

    def test_other_numbers_of_numbers(self):
        for many in range(0, 65):
            z = ([1, 0] * 32)[:many]
            if many in self.counts:
                self.not_refused(z)
            else:
                self.refused(z)

    def test_each_screen_by_its_bounds(self):
        for right in self.rights:
            for k in range(0, len(right), 2):
                for a in range(0, 12):
                    for b in range(0, 12):
                        z = right[:k] + [a, b] + right[k + 2:]
                        if 1 <= a <= 8 and b <= 8 and a * a + b * b <= 64:
                            self.not_refused(z)
                        else:
                            self.refused(z)

    def test_wrong_numbers_in_each_place(self):
        for right in self.rights:
            for k in range(len(right)):
                wrong = [9, 64, 65, 256, 2 ** 32 + 1, 2 ** 63, 2 ** 64 - 8, HUGE]
                for number in wrong + ([0] if k % 2 == 0 else []):
                    self.refused(right[:k] + [number] + right[k + 1:])

    def test_area_64_and_just_above(self):
        for right in self.rights:
            for k in range(0, len(right), 2):
                self.not_refused(right[:k] + [8, 0] + right[k + 2:])
                for a, b in ((8, 1), (7, 4), (4, 7), (1, 8)):
                    self.refused(right[:k] + [a, b] + right[k + 2:])

    def test_the_same_number_everywhere(self):
        for many in (0, 1, 2, 3, 4, 5, 6, 7, 8, 64):
            self.refused([HUGE] * many)
            self.refused([0] * many)


class BeatsByDefinition:
    """A call on h and z. A test case has `function`, and `expected(beats)`, the answer by the definition."""

    def check(self, screens):
        beats = all_beats(screens, 8)
        for h in ORDERS:
            given = type(self).function(h, told(screens))
            self.assertEqual(given, self.expected(of_order(beats, h)), (h, screens))

    def test_many_pairs(self):
        pairs = list(itertools.product(SCREENS, repeat=2))
        for screens in pairs[::4]:
            self.check(screens)

    def test_all_pairs_of_small_screens(self):
        small = [screen for screen in SCREENS if area(screen) <= 10]
        for screens in itertools.product(small, repeat=2):
            self.check(screens)

    def test_some_triples(self):
        triples = list(itertools.product(SCREENS, repeat=3))
        for screens in triples[::4999]:
            self.check(screens)

    def test_triples_of_low_orders(self):
        triples = list(itertools.product(SCREENS, repeat=3))
        small = [screen for screen in SCREENS if area(screen) <= 8]
        for screens in triples[::499] + list(itertools.product(small, repeat=3)):
            for h in (1, 2):
                given = type(self).function(h, told(screens))
                self.assertEqual(given, self.expected(all_beats(screens, h)), (h, screens))

    def test_least_and_greatest_area(self):
        for screens in (
            [(1, 0), (1, 0)], [(1, 0), (8, 0)], [(8, 0), (1, 0)], [(8, 0), (8, 0)],
            [(1, 0), (1, 0), (1, 0)], [(8, 0), (8, 0), (8, 0)], [(1, 0), (8, 0), (1, 1)],
        ):
            self.check(screens)

    def test_orders_at_which_no_harmonic_comes(self):
        for z in ([7, 3, 3, 7], [4, 0, 8, 0], [2, 1, 1, 2], [1, 1, 2, 0], [2, 1, 1, 2, 1, 1], [8, 0, 7, 0, 5, 5]):
            for h, same in ((3, 2), (6, 5), (7, 5)):
                self.assertEqual(type(self).function(h, z), type(self).function(same, z))

    def test_orders_that_are_refused(self):
        for z in ([2, 1, 3, 0], [1, 0, 1, 0], [2, 1, 3, 0, 1, 1]):
            for h in (0, 9, 10, 64, 255, 2 ** 32 + 1, 2 ** 63, 2 ** 64 - 8, HUGE):
                self.assertEqual(type(self).function(h, z), REFUSED)
            for h in ORDERS:
                self.assertNotEqual(type(self).function(h, z), REFUSED)

    def test_three_screens_of_order_8_within_seconds(self):
        for z in ([7, 3, 3, 7, 8, 0], [5, 6, 6, 5, 7, 2]):
            begun = time.perf_counter()
            type(self).function(8, z)
            self.assertLess(time.perf_counter() - begun, 3)


def copied(call, kind):
    """The arguments anew, each list as that kind of list."""
    return [kind(value) if isinstance(value, list) else value for value in call]


class ByItself:
    """What is asked of every call. A test case has `function` and `calls`, rows of arguments."""

    def given(self, call, kind=list):
        return type(self).function(*copied(call, kind))

    def test_lists_are_not_changed(self):
        for call in self.calls:
            handed = copied(call, list)
            type(self).function(*handed)
            self.assertEqual(handed, list(call))

    def test_lists_are_not_changed_for_a_while(self):
        for call in self.calls:
            self.assertEqual(self.given(call, Watched), self.given(call))

    def test_the_same_call_gives_the_same(self):
        first = [self.given(call) for call in self.calls]
        again = [self.given(call) for call in reversed(self.calls)]
        self.assertEqual(first, again[::-1])

    def test_the_given_list_may_be_changed(self):
        for call in self.calls:
            given = self.given(call)
            kept = list(given)
            given[0] = 77
            given.append(5)
            self.assertEqual(self.given(call), kept)

    def test_answers_are_lists_of_whole_numbers(self):
        for call in self.calls:
            given = self.given(call)
            self.assertIs(type(given), list)
            self.assertEqual({type(number) for number in given}, {int})

    def test_nothing_is_printed(self):
        out, err = io.StringIO(), io.StringIO()
        with contextlib.redirect_stdout(out), contextlib.redirect_stderr(err):
            for call in self.calls:
                self.given(call)
        self.assertEqual((out.getvalue(), err.getvalue()), ("", ""))
