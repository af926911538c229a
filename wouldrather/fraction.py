"""Fractions, told as two whole numbers."""


def common_divisor(first, second):
    while second != 0:
        rest = first % second
        first = second
        second = rest
    return first


def fraction(upper, lower):
    """Both numbers without a common divisor above 1."""
    divisor = common_divisor(upper, lower)
    return [upper // divisor, lower // divisor]
