"""Exact fractions, kept as whole numbers."""


def greatest_divisor(first, second):
    while second != 0:
        rest = first % second
        first = second
        second = rest
    return first


def least_multiple(first, second):
    return first * second // greatest_divisor(first, second)


def lowest_terms(numerator, denominator):
    divisor = greatest_divisor(numerator, denominator)
    return [numerator // divisor, denominator // divisor]
