"""Fractions as tuples (top, bottom) in lowest terms, so that no float is ever needed."""


def fraction(top, bottom):
    common = common_divisor(top, bottom)
    return (top // common, bottom // common)


def common_divisor(one, other):
    while other != 0:
        rest = one % other
        one = other
        other = rest
    return one
