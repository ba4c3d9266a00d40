"""Exact fractions, kept as whole numbers."""


# It has the sign of the second number, unless that is 0: so a fraction's denominator
# stays above 0 in lowest terms.
def greatest_divisor(first, second):
    while second != 0:
        rest = first % second
        first = second
        second = rest
    return first


def least_multiple(first, second):
    return first * second // greatest_divisor(first, second)


def lowest_terms(numerator, denominator):
    divisor = greatest_divisor(numerator, denominator)
    return [numerator // divisor, denominator // divisor]
