"""The calls on screens laid over one another.

A lattice (a, b) holds just the multiples of the complex number a + b i by whole
complex numbers. So lattices are worked with as such numbers, pairs (x, y) of whole
numbers: the places that two lattices share are the multiples of both, and these are
the multiples of their least common multiple. The sums of places of two lattices are
the multiples of their greatest common divisor.
"""


def answer(number, told):
    return [number, 0, len(told)] + told


def refusal(number):
    return answer(number, [])


def is_screen(a, b):
    # The bounds of a and b stand first, so that no huge number is squared.
    return 1 <= a <= 8 and 0 <= b <= 8 and a * a + b * b <= 64


def screens_of(z):
    """The screens that z tells, each (a, b); none if they may not be."""
    if len(z) != 4 and len(z) != 6:
        return []
    screens = [(z[k], z[k + 1]) for k in range(0, len(z), 2)]
    if not all([is_screen(screen[0], screen[1]) for screen in screens]):
        return []
    return screens


def area(u):
    return u[0] * u[0] + u[1] * u[1]


def minus(u, v):
    return (u[0] - v[0], u[1] - v[1])


def times(u, v):
    return (u[0] * v[0] - u[1] * v[1], u[0] * v[1] + u[1] * v[0])


def nearest(x, n):
    """The whole number nearest to the fraction x / n, n above 0."""
    return (2 * x + n) // (2 * n)


def quotient(u, v):
    """The whole complex number nearest to u / v: u / v itself where that is whole."""
    n = area(v)
    turned = times(u, (v[0], -v[1]))
    return (nearest(turned[0], n), nearest(turned[1], n))


def greatest_divisor(u, v):
    """A greatest common divisor of u and v."""
    # It ends: the quotient is the nearest one, so the rest has at most half of v's area.
    while v != (0, 0):
        rest = minus(u, times(quotient(u, v), v))
        u = v
        v = rest
    return u


def upright(u):
    """The one (p, q) with p at least 1, q at least 0 that has the lattice of u, not (0, 0)."""
    # A quarter turn keeps the lattice, and just one of the four turns lies there.
    while u[0] < 1 or u[1] < 0:
        u = (-u[1], u[0])
    return u


def common_of(u, v):
    return upright(quotient(times(u, v), greatest_divisor(u, v)))


def joint_of(u, v):
    return upright(greatest_divisor(u, v))


def told_lattice(lattice):
    return answer(area(lattice), [lattice[0], lattice[1]])


def common(z):
    """The lattice of the places that all screens of z have: [area, 0, 2, p, q], or [-1, 0, 0]."""
    screens = screens_of(z)
    if len(screens) == 0:
        return refusal(-1)
    lattice = (1, 0)
    for screen in screens:
        lattice = common_of(lattice, screen)
    return told_lattice(lattice)


def joint(z):
    """The lattice of all sums of places, one of each screen of z: [area, 0, 2, p, q], or [-1, 0, 0]."""
    screens = screens_of(z)
    if len(screens) == 0:
        return refusal(-1)
    lattice = screens[0]
    for screen in screens:
        lattice = joint_of(lattice, screen)
    return told_lattice(lattice)
