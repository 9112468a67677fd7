"""Fractions: pairs (n, d) with nothing in common, d 1 or more.

Every pair is made by fraction, so equal fractions are equal pairs.
"""


def common_divisor(a, b):
    great = a
    small = b
    while small != 0:
        rest = great % small
        great = small
        small = rest
    return great


def fraction(n, d):
    shared = common_divisor(abs(n), d)
    return (n // shared, d // shared)


def add(a, b):
    return fraction(a[0] * b[1] + b[0] * a[1], a[1] * b[1])


def subtract(a, b):
    return fraction(a[0] * b[1] - b[0] * a[1], a[1] * b[1])


def multiply(a, b):
    return fraction(a[0] * b[0], a[1] * b[1])


def divide(a, b):
    # Only factors are divided by, and these are above 0: the second number stays so.
    return fraction(a[0] * b[1], a[1] * b[0])


def half(a):
    return fraction(a[0], 2 * a[1])


def at_most(a, b):
    return a[0] * b[1] <= b[0] * a[1]


def greater_of(a, b):
    if at_most(a, b):
        return b
    return a


def lesser_of(a, b):
    if at_most(a, b):
        return a
    return b
