"""A cubic's crest: where its slope falls through 0.

A cubic is handed in as its four coefficients a, b, c, d times scale, then scale (above 0).
At the crest half the bend is -r, r the root of c^2 - 3 b d: mostly no quotient. So that
nothing is rounded, squares are compared, and a root is taken only where a ceiling follows.
"""

from battenlath.quotient import ceiling


def signed_square(number):
    """The square with the number's sign: of two numbers the greater has the greater one."""
    return number * abs(number)


def root_ceiling(number):
    """The least whole number from 0 on whose square is not below number, which is from 0 on."""
    if number == 0:
        return 0
    # Newton's steps from above the root fall for as long as its floor is not reached.
    root = 1 << ((number.bit_length() + 1) // 2)
    step = (root + number // root) // 2
    while step < root:
        root = step
        step = (root + number // root) // 2
    if root * root < number:
        return root + 1
    return root


def has_crest(cubic, gap):
    """Whether the cubic has a crest from t = 0 to t = gap."""
    b = cubic[1]
    c = cubic[2]
    d = cubic[3]
    if d == 0:
        return c < 0 and b >= 0 and b + 2 * c * gap <= 0
    square = c * c - 3 * b * d
    # Half the bend goes evenly from its first value to its last: the crest is there if -r lies between these.
    first = signed_square(c)
    last = signed_square(c + 3 * d * gap)
    return square >= 0 and min(first, last) <= -square <= max(first, last)


def crest_ceiling(cubic):
    """The least whole number that the crest of a cubic that has one doesn't exceed."""
    a = cubic[0]
    b = cubic[1]
    c = cubic[2]
    d = cubic[3]
    scale = cubic[4]
    if d == 0:
        return ceiling(b * b - 4 * a * c, -4 * c * scale)
    # The crest is (2 r^3 + others) / (27 d^2). All that 2 r^3 is held against for the ceiling
    # is whole, so raising it to a whole number first changes nothing.
    others = 27 * a * d * d - 9 * b * c * d + 2 * c ** 3
    raised = root_ceiling(4 * (c * c - 3 * b * d) ** 3)
    return ceiling(raised + others, 27 * d * d * scale)
