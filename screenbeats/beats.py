"""The calls on screens laid over one another.

A lattice (a, b) holds just the multiples of the complex number a + b i by whole
complex numbers. So lattices are worked with as such numbers, pairs (x, y) of whole
numbers: the places that two lattices share are the multiples of both, and these are
the multiples of their least common multiple. The sums of places of two lattices are
the multiples of their greatest common divisor.
"""

STEPS = ((-1, -1), (-1, 0), (-1, 1), (0, -1), (0, 0), (0, 1), (1, -1), (1, 0), (1, 1))


def answer(number, told):
    return [number, 0, len(told)] + told


def refusal(number):
    return answer(number, [])


def is_screen(a, b):
    # The bounds of a and b stand first, so that no huge number is squared.
    return 1 <= a <= 8 and 0 <= b <= 8 and a * a + b * b <= 64


def screens_of(z):
    """The screens that z tells, each (a, b); none if they may not be."""
    if len(z) != 4 and len(z) != 6:
        return []
    screens = [(z[k], z[k + 1]) for k in range(0, len(z), 2)]
    if not all([is_screen(screen[0], screen[1]) for screen in screens]):
        return []
    return screens


def area(u):
    return u[0] * u[0] + u[1] * u[1]


def plus(u, v):
    return (u[0] + v[0], u[1] + v[1])


def minus(u, v):
    return (u[0] - v[0], u[1] - v[1])


def times(u, v):
    return (u[0] * v[0] - u[1] * v[1], u[0] * v[1] + u[1] * v[0])


def nearest(x, n):
    """The whole number nearest to the fraction x / n, n above 0."""
    return (2 * x + n) // (2 * n)


def quotient(u, v):
    """The whole complex number nearest to u / v: u / v itself where that is whole."""
    n = area(v)
    turned = times(u, (v[0], -v[1]))
    return (nearest(turned[0], n), nearest(turned[1], n))


def divisor_and_factor(u, v):
    """(g, f): g a greatest common divisor of u and v, and f u less g a multiple of v."""
    # Throughout, u is factor times the u of the beginning, and v is later times it, but for a multiple of
    # the v of the beginning. It ends: the quotient is the nearest one, so the rest has at most half of v's area.
    factor = (1, 0)
    later = (0, 0)
    while v != (0, 0):
        whole = quotient(u, v)
        rest = minus(u, times(whole, v))
        rest_factor = minus(factor, times(whole, later))
        u = v
        v = rest
        factor = later
        later = rest_factor
    return (u, factor)


def greatest_divisor(u, v):
    return divisor_and_factor(u, v)[0]


def upright(u):
    """The one (p, q) with p at least 1, q at least 0 that has the lattice of u, not (0, 0)."""
    # A quarter turn keeps the lattice, and just one of the four turns lies there.
    while u[0] < 1 or u[1] < 0:
        u = (-u[1], u[0])
    return u


def common_of(u, v):
    return upright(quotient(times(u, v), greatest_divisor(u, v)))


def joint_of(u, v):
    return upright(greatest_divisor(u, v))


class Cell:
    """The places of a lattice's cell, from (0, 0) on: just one of each class."""

    def __init__(self, lattice):
        # The lattice is all sums of multiples of these two places. Euclid's steps on their y keep it so, and end
        # with the one as low as a place of the lattice can be above y = 0, the other at y = 0.
        low = lattice
        flat = (-lattice[1], lattice[0])
        while flat[1] != 0:
            rest = minus(low, times((low[1] // flat[1], 0), flat))
            low = flat
            flat = rest
        self.wide = abs(flat[0])
        self.high = low[1]
        self.slant = low[0]

    def spot(self, place):
        """The one place of the cell that is of the place's class."""
        # The places (slant, high) and (wide, 0) are on the lattice, so steps by them keep the class.
        steps = place[1] // self.high
        return ((place[0] - steps * self.slant) % self.wide, place[1] % self.high)

    def class_number(self, place):
        spot = self.spot(place)
        return spot[1] * self.wide + spot[0]

    def spot_of_class(self, number):
        return (number % self.wide, number // self.wide)


def places_round(screen, place):
    """Some places of the lattice round a place, by each way a nearest one among them."""
    # The middle is at most half a step (the root of n) off in each direction, so by rows and columns at most a whole
    # step. What is as near as that is at most a step off in each direction, so at most one from the middle.
    middle = quotient(place, screen)
    return [times(plus(middle, step), screen) for step in STEPS]


def how_far(screen, way, place):
    if way == 2:
        n = area(screen)
        rest = (screen[0] * place[1] - screen[1] * place[0]) % n
        return min(rest, n - rest)
    gaps = [minus(place, other) for other in places_round(screen, place)]
    if way == 0:
        return min([area(gap) for gap in gaps])
    return min([abs(gap[0]) + abs(gap[1]) for gap in gaps])


def ranks_of(screen, way):
    """The rank of each class, by its number."""
    cell = Cell(screen)
    order = sorted([(how_far(screen, way, cell.spot_of_class(c)), c) for c in range(area(screen))])
    ranks = [0] * len(order)
    for rank in range(len(order)):
        ranks[order[rank][1]] = rank
    return ranks


class Tint:
    """A screen's dots of one tone, shifted by an offset."""

    def __init__(self, screen, way, tone, offset):
        self.cell = Cell(screen)
        self.ranks = ranks_of(screen, way)
        self.tone = tone
        self.offset = offset

    def has_dot(self, place):
        return self.ranks[self.cell.class_number(plus(place, self.offset))] < self.tone


def harmonics(h):
    """All (i, j) but (0, 0) with i i + j j at most h, in their order."""
    found = []
    for i in range(-h, h + 1):
        for j in range(-h, h + 1):
            if 1 <= area((i, j)) <= h:
                found.append((area((i, j)), i, j))
    return [(row[1], row[2]) for row in sorted(found)]


def product_of_areas(screens):
    product = 1
    for screen in screens:
        product = product * area(screen)
    return product


def waves_of(screen, h, lower):
    """Each harmonic with its wave, a pair of upper numbers that both stand over lower, a multiple of the area."""
    scale = (lower // area(screen), 0)
    return [(harmonic, times(times(screen, harmonic), scale)) for harmonic in harmonics(h)]


def beats_of(screens, h):
    """All beats in their order: each the list of its i, j, and its two upper numbers, over the areas' product."""
    lower = product_of_areas(screens)
    beats = [([], (0, 0))]
    for screen in screens:
        waves = waves_of(screen, h, lower)
        longer = []
        for beat in beats:
            for wave in waves:
                longer.append((beat[0] + list(wave[0]), plus(beat[1], wave[1])))
        beats = longer
    return beats


def least_terms(upper, lower):
    # Of lattices along the rows alone, the joint one has the numbers' greatest common divisor.
    divisor = joint_of((upper, 0), (lower, 0))[0]
    return [upper // divisor, lower // divisor]


def is_order(h):
    return 1 <= h <= 8


def told_lattice(lattice):
    return answer(area(lattice), [lattice[0], lattice[1]])


def common(z):
    """The lattice of the places that all screens of z have: [area, 0, 2, p, q], or [-1, 0, 0]."""
    screens = screens_of(z)
    if len(screens) == 0:
        return refusal(-1)
    lattice = (1, 0)
    for screen in screens:
        lattice = common_of(lattice, screen)
    return told_lattice(lattice)


def joint(z):
    """The lattice of all sums of places, one of each screen of z: [area, 0, 2, p, q], or [-1, 0, 0]."""
    screens = screens_of(z)
    if len(screens) == 0:
        return refusal(-1)
    lattice = screens[0]
    for screen in screens:
        lattice = joint_of(lattice, screen)
    return told_lattice(lattice)


def meeting_place(first, second, u, v):
    """A place of the class of u in the first lattice and of that of v in the second; None if there is none."""
    found = divisor_and_factor(first, second)
    divisor = found[0]
    factor = found[1]
    gap = minus(v, u)
    steps = quotient(gap, divisor)
    if times(steps, divisor) != gap:
        return None
    # First times factor is the divisor but for a multiple of second, so first times factor times steps is the gap so.
    return plus(u, times(first, times(factor, steps)))


def meet(c, d, z):
    """Where class c of the first of two screens and d of the second meet.

    It answers [number, 0, 2, x, y] of the common lattice's class, [-1, 0, 0], or [-4, 0, 0] where they don't meet.
    """
    screens = screens_of(z)
    if len(screens) != 2:
        return refusal(-1)
    first = screens[0]
    second = screens[1]
    if c >= area(first) or d >= area(second):
        return refusal(-1)
    place = meeting_place(first, second, Cell(first).spot_of_class(c), Cell(second).spot_of_class(d))
    if place is None:
        return refusal(-4)
    cell = Cell(common_of(first, second))
    spot = cell.spot(place)
    return answer(cell.class_number(spot), [spot[0], spot[1]])


def is_tint(a, b, way, tone):
    return is_screen(a, b) and way <= 2 and tone <= area((a, b))


def overlap(a, b, way, t, a2, b2, way2, t2, x, y):
    """How many places of a common cell both tints have, the second with offsets x, y: [number, 0, 0], or [-1, 0, 0]."""
    if not is_tint(a, b, way, t) or not is_tint(a2, b2, way2, t2):
        return refusal(-1)
    first = Tint((a, b), way, t, (0, 0))
    second = Tint((a2, b2), way2, t2, (x, y))
    cell = Cell(common_of((a, b), (a2, b2)))
    places = [cell.spot_of_class(number) for number in range(cell.wide * cell.high)]
    both = [place for place in places if first.has_dot(place) and second.has_dot(place)]
    return answer(len(both), [])


def slowest(h, z):
    """The slowest beat of order h: [1, 0, 6 or 8, upper, lower, i, j of each screen], or [-1, 0, 0]."""
    screens = screens_of(z)
    if len(screens) == 0 or not is_order(h):
        return refusal(-1)
    # There is always one: unlike waves of one screen, with the same of the others, can't all give 0.
    moving = [beat for beat in beats_of(screens, h) if beat[1] != (0, 0)]
    # Of several as slow, min takes the first.
    beat = min(moving, key=lambda row: area(row[1]))
    lower = product_of_areas(screens)
    return answer(1, least_terms(area(beat[1]), lower * lower) + beat[0])


def lock(h, z):
    """The first beat of order h that is 0: [1, 0, 4 or 6, i, j of each screen], [-1, 0, 0], or [-4, 0, 0] for none."""
    screens = screens_of(z)
    if len(screens) == 0 or not is_order(h):
        return refusal(-1)
    still = [beat for beat in beats_of(screens, h) if beat[1] == (0, 0)]
    if len(still) == 0:
        return refusal(-4)
    return answer(1, still[0][0])
