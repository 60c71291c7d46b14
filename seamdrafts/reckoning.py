"""What a draft's sums and places mean.

A sum is a fraction, not always in lowest terms. A place is three whole numbers (x, y, below): the point
(x / below, y / below), below above 0. What can't be reckoned is None.
"""

from seamdrafts.exact import greater, lesser, lowest, minus, negative, over, plus, times
from seamdrafts.grammar import NEGATIVE


def fraction_of_digits(text):
    """The fraction that a draft's number tells by its digits."""
    halves = text.partition(".")
    return (int(halves[0] + halves[2]), int("1" + "0" * len(halves[2])))


def place_of(point):
    """A kept point as a place."""
    return pair(point[0], point[1])


def point_of(p):
    """A place as a point to be kept; None if it's too fine."""
    x = lowest(x_of(p))
    y = lowest(y_of(p))
    if x is None or y is None:
        return None
    return (x, y)


def x_of(p):
    """A place's x."""
    return (p[0], p[2])


def y_of(p):
    """A place's y."""
    return (p[1], p[2])


def pair(x, y):
    """The place of two sums."""
    return (x[0] * y[1], y[0] * x[1], x[1] * y[1])


def way(p, q):
    """The way from one place to another, times what is below the line in either."""
    return (q[0] * p[2] - p[0] * q[2], q[1] * p[2] - p[1] * q[2])


def dot(v, w):
    """The product of two ways' lengths along each other."""
    return v[0] * w[0] + v[1] * w[1]


def cross(v, w):
    """The product of a way and how far the other leads to its left."""
    return v[0] * w[1] - v[1] * w[0]


def between(p, q, part):
    """The place at this part of the way from p to q."""
    below = p[2] * q[2] * part[1]
    v = way(p, q)
    return (p[0] * q[2] * part[1] + v[0] * part[0], p[1] * q[2] * part[1] + v[1] * part[0], below)


def line_through(p, q):
    """The line through p and q: (a, b, c), and a x + b y + c below is 0 for its places; None if p and q are one."""
    a = p[1] * q[2] - p[2] * q[1]
    b = p[2] * q[0] - p[0] * q[2]
    if a == 0 and b == 0:
        return None
    return (a, b, p[0] * q[1] - p[1] * q[0])


def meet(p, q, r, s):
    """Where the line through p and q meets that through r and s; None where that's not one point."""
    one = line_through(p, q)
    two = line_through(r, s)
    if one is None or two is None:
        return None
    x = one[1] * two[2] - one[2] * two[1]
    y = one[2] * two[0] - one[0] * two[2]
    below = one[0] * two[1] - one[1] * two[0]
    if below == 0:
        return None
    if below < 0:
        return (-x, -y, -below)
    return (x, y, below)


def moved_to_line(p, q, r, often):
    """The place p moved so often by its way to the line through q and r; None if those are one."""
    line = line_through(q, r)
    if line is None:
        return None
    square = line[0] * line[0] + line[1] * line[1]
    off = often * (line[0] * p[0] + line[1] * p[1] + line[2] * p[2])
    return (p[0] * square - off * line[0], p[1] * square - off * line[1], p[2] * square)


def foot(p, q, r):
    """The foot of p on the line through q and r."""
    return moved_to_line(p, q, r, 1)


def mirror(p, q, r):
    """The image of p in the line through q and r."""
    return moved_to_line(p, q, r, 2)


def turn(p, c, d, e):
    """The place p turned about c from the direction to d to that to e; None if these have two lengths or none."""
    arm = way(c, p)
    before = way(c, d)
    behind = way(c, e)
    square = dot(before, before)
    if square == 0 or square * e[2] * e[2] != dot(behind, behind) * d[2] * d[2]:
        return None
    # The turn's cosine and sine, times the square and e's below: the ways are too long by their places' belows.
    cosine = dot(before, behind) * d[2]
    sine = cross(before, behind) * d[2]
    size = p[2] * square * e[2]
    x = c[0] * size + cosine * arm[0] - sine * arm[1]
    y = c[1] * size + sine * arm[0] + cosine * arm[1]
    return (x, y, c[2] * size)


def shift(p, a, b):
    """The place p shifted by a to the right and b up."""
    moved = pair(a, b)
    return (p[0] * moved[2] + moved[0] * p[2], p[1] * moved[2] + moved[1] * p[2], p[2] * moved[2])


def made_of_one(what, part):
    """What a step makes of one part."""
    if what == NEGATIVE:
        return negative(part)
    if what == "x":
        return x_of(part)
    return y_of(part)


def made_of_two(what, a, b):
    """What a step makes of two parts."""
    if what == "+":
        return plus(a, b)
    if what == "-":
        return minus(a, b)
    if what == "*":
        return times(a, b)
    if what == "/":
        return over(a, b)
    if what == "min":
        return lesser(a, b)
    if what == "max":
        return greater(a, b)
    return pair(a, b)


def made_of_three(what, p, q, r):
    """What a step makes of three parts."""
    if what == "between":
        return between(p, q, r)
    if what == "foot":
        return foot(p, q, r)
    if what == "mirror":
        return mirror(p, q, r)
    return shift(p, q, r)


def made(what, parts):
    """What a step makes of its parts; None if that can't be reckoned."""
    if len(parts) == 1:
        return made_of_one(what, parts[0])
    if len(parts) == 2:
        return made_of_two(what, parts[0], parts[1])
    if len(parts) == 3:
        return made_of_three(what, parts[0], parts[1], parts[2])
    if what == "meet":
        return meet(parts[0], parts[1], parts[2], parts[3])
    return turn(parts[0], parts[1], parts[2], parts[3])
