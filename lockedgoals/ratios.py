"""Whole numbers that make up a fraction."""


def common_divisor(first, second):
    """The greatest common divisor of two numbers from 0 up."""
    while second > 0:
        rest = first % second
        first = second
        second = rest
    return first


def common_multiple(first, second):
    """The least common multiple of two numbers from 1 up."""
    return first // common_divisor(first, second) * second


def lowest_terms(top, bottom):
    """The numerator and the denominator of top / bottom, for a bottom from 1 up."""
    divisor = common_divisor(abs(top), bottom)
    return [top // divisor, bottom // divisor]


def difference(top, bottom, other_top, other_bottom):
    """top / bottom minus other_top / other_bottom, in lowest terms, for bottoms from 1 up."""
    return lowest_terms(top * other_bottom - other_top * bottom, bottom * other_bottom)
