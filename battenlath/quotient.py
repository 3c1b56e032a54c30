"""Quotients of two whole numbers, the second above 0."""


def common_divisor(one, other):
    """The greatest whole number that divides both; neither is below 0, and not both are 0."""
    while other > 0:
        rest = one % other
        one = other
        other = rest
    return one


def lowest(above, below):
    """The quotient in lowest terms, as a list of two."""
    shared = common_divisor(abs(above), below)
    return [above // shared, below // shared]


def ceiling(above, below):
    """The least whole number that is not below the quotient."""
    return -(-above // below)


def nearest(above, below):
    """The whole number nearest to the quotient, of two as near the even one."""
    floor = above // below
    twice_rest = 2 * (above - floor * below)
    if twice_rest > below or (twice_rest == below and floor % 2 == 1):
        return floor + 1
    return floor
