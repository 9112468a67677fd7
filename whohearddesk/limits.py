"""How far the numbers that are told may go."""

FARTHEST = 99
GREATEST_FACTOR = 9
GREATEST_N = 999
GREATEST_D = 99


def is_near(number):
    return -FARTHEST <= number <= FARTHEST


def is_factor_part(number):
    return 1 <= number <= GREATEST_FACTOR


def is_clock_number(n, d):
    return -GREATEST_N <= n <= GREATEST_N and 1 <= d <= GREATEST_D
