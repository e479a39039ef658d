"""Fractions: tuples of two whole numbers, the second at least 1.

Sums are left as they come, with common divisors: only what is kept for long or told is brought to lowest terms.
"""


def common_divisor(first, second):
    """The greatest one of two numbers that aren't below 0 and aren't both 0."""
    while second != 0:
        rest = first % second
        first = second
        second = rest
    return first


def lowest(fraction):
    """The same fraction without a common divisor above 1."""
    divisor = common_divisor(abs(fraction[0]), fraction[1])
    return (fraction[0] // divisor, fraction[1] // divisor)


def plus(fraction, other):
    return (fraction[0] * other[1] + other[0] * fraction[1], fraction[1] * other[1])


def is_greater(fraction, other):
    return fraction[0] * other[1] > other[0] * fraction[1]


def rounded(fraction):
    """The nearest whole number, halves towards the greater one."""
    # The division rounds down also below 0, so that half a unit more is enough.
    return (2 * fraction[0] + fraction[1]) // (2 * fraction[1])
