"""Fractions: pairs of numbers, the second one above 0, in least form or not."""

from math import gcd


def least_form(fraction):
    """A fraction in least form."""
    over, under = fraction
    divisor = gcd(over, under)
    return over // divisor, under // divisor


def is_less(one, other):
    """Whether a fraction is less than another one."""
    return one[0] * other[1] < other[0] * one[1]


def least_of(fractions):
    """The first one of the least ones of a list of fractions, at least one."""
    least = fractions[0]
    for fraction in fractions:
        if is_less(fraction, least):
            least = fraction
    return least


def greatest_of(fractions):
    """The first one of the greatest ones of a list of fractions, at least one."""
    greatest = fractions[0]
    for fraction in fractions:
        if is_less(greatest, fraction):
            greatest = fraction
    return greatest
