"""Fractions as two whole numbers, none of them rounded."""

HUNDRED = 100


def common_divisor(one, other):
    """The greatest number that divides both; neither is below 0, and one of them is above 0."""
    while other > 0:
        left = one % other
        one = other
        other = left
    return one


def lowest(upper, lower):
    """The fraction's two numbers without a common divisor; lower is above 0."""
    divisor = common_divisor(abs(upper), lower)
    return [upper // divisor, lower // divisor]


def power(base, times):
    """base, times itself, so many times: 1 if no time."""
    product = 1
    for step in range(times):
        product *= base
    return product
