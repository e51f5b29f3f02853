"""Quotients of two whole numbers, the upper one 0 or more, the lower one 1 or more."""


def nearest(upper, lower):
    """The whole number nearest to a quotient, of two as near the greater one."""
    return (2 * upper + lower) // (2 * lower)


def lowest_terms(upper, lower):
    """The upper and the lower number of a quotient in lowest terms."""
    divisor = greatest_divisor(upper, lower)
    return (upper // divisor, lower // divisor)


def greatest_divisor(one, other):
    """The greatest whole number that divides both."""
    while other > 0:
        rest = one % other
        one = other
        other = rest
    return one
