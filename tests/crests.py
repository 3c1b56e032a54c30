"""A second way to a batten's top: the crest is closed in on by halving, never solved for."""

from fractions import Fraction
from math import ceil


def value(cubic, t):
    a, b, c, d = cubic
    return a + b * t + c * t ** 2 + d * t ** 3


def slope(cubic, t):
    a, b, c, d = cubic
    return b + 2 * c * t + 3 * d * t ** 2


def touches(cubic, level):
    """Whether the cubic less level has a double root: its discriminant is 0."""
    a, b, c, d = cubic
    a = a - level
    return 18 * a * b * c * d - 4 * c ** 3 * a + b ** 2 * c ** 2 - 4 * d * b ** 3 - 27 * d ** 2 * a ** 2 == 0


def falling_part(cubic, h):
    """The part of 0 to h in which the bend is not above 0: there alone a crest lies. None if there's none."""
    c, d = cubic[2], cubic[3]
    first, last = c, c + 3 * d * h
    if first > 0 and last > 0:
        return None
    left, right = Fraction(0), Fraction(h)
    if first > 0:
        left = -c / (3 * d)
    if last > 0:
        right = -c / (3 * d)
    return left, right


def crest_top(cubic, h):
    """The least whole number that the cubic's crest between 0 and h doesn't exceed; None without a crest."""
    part = falling_part(cubic, h)
    if part is None or slope(cubic, part[0]) <= 0 or slope(cubic, part[1]) >= 0:
        return None
    left, right = part
    while True:
        # The slope only falls here: from left on the cubic rises by less than its slope at left tells.
        low = max(value(cubic, left), value(cubic, right))
        high = value(cubic, left) + slope(cubic, left) * (right - left)
        if ceil(low) == ceil(high):
            return ceil(low)
        if high - low < Fraction(1, 2 ** 20) and touches(cubic, ceil(low)):
            return ceil(low)
        middle = (left + right) / 2
        if slope(cubic, middle) > 0:
            left = middle
        else:
            right = middle


def top_of(xs, ys, cubics):
    """The top of the batten made of these cubics."""
    found = max(ys)
    for i, cubic in enumerate(cubics):
        crest = crest_top(cubic, xs[i + 1] - xs[i])
        if crest is not None:
            found = max(found, crest)
    return found
