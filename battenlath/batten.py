"""The batten through a line's nails.

All is whole numbers over one common divisor: a quotient is brought to lowest terms
only when it is answered, so that no step on the way needs a division with a rest.
What is solved for is a sixth of the bend at each nail, since the cubics are made of sixths.
"""

from battenlath.crest import crest_ceiling, has_crest


def product_of(numbers):
    """All of them multiplied."""
    product = 1
    for number in numbers:
        product = product * number
    return product


def kinks_of(gaps, ys, product):
    """For each nail but the last, how much steeper the straight line behind it is than the one before it.

    All are told times product, that of all gaps: so they are whole numbers. The first nail's 0 is not used.
    """
    steeps = [(ys[i + 1] - ys[i]) * (product // gap) for i, gap in enumerate(gaps)]
    return [0] + [steeps[i] - steeps[i - 1] for i in range(1, len(steeps))]


def eliminate(gaps, kinks):
    """Clears the sixth before from each inner nail's equation.

    At nail i the one slope of both cubics asks, of the sixths s:
      gaps[i-1] s[i-1] + 2 (gaps[i-1] + gaps[i]) s[i] + gaps[i] s[i+1] = kinks[i]
    Answers the lists minors and sides, for which
      minors[i] s[i] + minors[i-1] gaps[i] s[i+1] = sides[i]
    minors[i] is the determinant of the first i equations, never 0.
    """
    minors = [1]
    sides = [0]
    older = 0
    for i in range(1, len(gaps)):
        before = gaps[i - 1]
        minor = 2 * (before + gaps[i]) * minors[i - 1] - before * before * older
        sides.append(minors[i - 1] * kinks[i] - before * sides[i - 1])
        older = minors[i - 1]
        minors.append(minor)
    return (minors, sides)


def sixths_of(gaps, kinks):
    """A sixth of the bend at each nail, times the last determinant; and that determinant."""
    cleared = eliminate(gaps, kinks)
    minors = cleared[0]
    sides = cleared[1]
    whole = minors[-1]
    sixths = [0] * (len(gaps) + 1)
    for i in range(len(gaps) - 1, 0, -1):
        # By Cramer's rule a sixth times the last determinant is whole: nothing is lost here.
        sixths[i] = (sides[i] * whole - minors[i - 1] * gaps[i] * sixths[i + 1]) // minors[i]
    return (sixths, whole)


class Batten:
    """The batten through the nails (xs[i], ys[i]); a sixth of its bend at nail i is sixths[i] / under."""

    def __init__(self, xs, ys):
        self.xs = xs
        self.ys = ys
        self.gaps = [xs[i + 1] - xs[i] for i in range(len(xs) - 1)]
        product = product_of(self.gaps)
        solved = sixths_of(self.gaps, kinks_of(self.gaps, ys, product))
        self.sixths = solved[0]
        self.under = solved[1] * product

    def covers(self, p, q):
        """Whether the place p / q lies on the line."""
        return self.xs[0] * q <= p <= self.xs[-1] * q

    def has_cubic(self, i):
        """Whether there is a nail i and one behind it."""
        return 0 <= i < len(self.gaps)

    def cubic_at(self, p, q):
        """The number of a cubic that covers the place p / q, which lies on the line."""
        i = 0
        while i + 1 < len(self.gaps) and self.xs[i + 1] * q <= p:
            i = i + 1
        return i

    def cubic(self, i):
        """The cubic from nail i on: its four coefficients times scale, then scale."""
        gap = self.gaps[i]
        first = self.sixths[i]
        second = self.sixths[i + 1]
        scale = gap * self.under
        rise = self.ys[i + 1] - self.ys[i]
        b = self.under * rise - gap * gap * (2 * first + second)
        return (self.ys[i] * scale, b, 3 * gap * first, second - first, scale)

    def derived(self, p, q, what):
        """Value (what 0), slope (1) or bend (2) at the place p / q on the line: above and below."""
        i = self.cubic_at(p, q)
        cubic = self.cubic(i)
        a = cubic[0]
        b = cubic[1]
        c = cubic[2]
        d = cubic[3]
        scale = cubic[4]
        t = p - self.xs[i] * q
        if what == 0:
            return (((d * t + c * q) * t + b * q * q) * t + a * q ** 3, scale * q ** 3)
        if what == 1:
            return ((3 * d * t + 2 * c * q) * t + b * q * q, scale * q * q)
        return (6 * d * t + 2 * c * q, scale * q)

    def bending(self):
        """The integral of the bend times itself along the line: above and below."""
        above = 0
        for i, gap in enumerate(self.gaps):
            first = self.sixths[i]
            second = self.sixths[i + 1]
            # The bend goes evenly from 6 first to 6 second: a third of 36 is left.
            above = above + 12 * gap * (first * first + first * second + second * second)
        return (above, self.under * self.under)

    def turns(self):
        """How often the bend changes from above 0 to below or back."""
        # Between two nails the bend goes evenly, so its signs at the nails tell all.
        bent = [sixth for sixth in self.sixths if sixth != 0]
        return len([i for i in range(1, len(bent)) if (bent[i - 1] > 0) != (bent[i] > 0)])

    def top(self):
        """The least whole number that the batten exceeds nowhere."""
        found = max(self.ys)
        for i, gap in enumerate(self.gaps):
            cubic = self.cubic(i)
            if has_crest(cubic, gap):
                found = max(found, crest_ceiling(cubic))
        return found
