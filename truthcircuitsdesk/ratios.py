"""Exact fractions: pairs of a numerator and a denominator above 0."""


def common_divisor(a, b):
    while b != 0:
        rest = a % b
        a = b
        b = rest
    return abs(a)


def lowest_terms(top, bottom):
    divisor = common_divisor(top, bottom)
    return (top // divisor, bottom // divisor)
