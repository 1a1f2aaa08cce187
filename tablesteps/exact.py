"""Exact numbers: a whole is an int, a fraction a pair of ints.

A fraction's second number is above 0. The functions that say nothing of lowest
terms or limits leave both open, so that what is only on its way stays exact.
"""


# Raised where what comes is beyond the limits of values or of tables.
class TooLarge(Exception):
    pass


def greatest_divisor(one, other):
    while other != 0:
        rest = one % other
        one = other
        other = rest
    return one


# 10^400 itself is beyond the limit.
def is_beyond(number):
    return abs(number) >= (10 ** 50) ** 8


def within_whole(number):
    if is_beyond(number):
        raise TooLarge()
    return number


def within_fraction(fraction):
    if is_beyond(fraction[0]) or is_beyond(fraction[1]):
        raise TooLarge()
    return fraction


def lowest_terms(fraction):
    divisor = greatest_divisor(abs(fraction[0]), fraction[1])
    return (fraction[0] // divisor, fraction[1] // divisor)


def as_fraction(number, sort):
    return number if sort == "fraction" else (number, 1)


# The common lower number is kept as small as it can be: a long row is added up this way.
def add_fractions(one, other):
    divisor = greatest_divisor(one[1], other[1])
    stretch = other[1] // divisor
    return (one[0] * stretch + other[0] * (one[1] // divisor), one[1] * stretch)


def negative_fraction(fraction):
    return (-fraction[0], fraction[1])


def multiply_fractions(one, other):
    return (one[0] * other[0], one[1] * other[1])


# 1 by the fraction, which isn't 0.
def turned_over(fraction):
    if fraction[0] < 0:
        return (-fraction[1], -fraction[0])
    return (fraction[1], fraction[0])


# Below 0 if one comes first, 0 if both are the same, above 0 if other comes first.
def compare_fractions(one, other):
    return one[0] * other[1] - other[0] * one[1]


def sum_of(numbers, sort):
    if sort == "whole":
        return within_whole(sum(numbers))
    total = (0, 1)
    for number in numbers:
        total = add_fractions(total, number)
    return within_fraction(lowest_terms(total))


def mean_of(numbers, sort):
    total = (0, 1)
    for number in numbers:
        total = add_fractions(total, as_fraction(number, sort))
    return within_fraction(lowest_terms((total[0], total[1] * len(numbers))))
