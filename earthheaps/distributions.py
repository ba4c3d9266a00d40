"""Distributions: lists of weights. A point's probability is its part of their sum."""

from earthheaps.ratios import greatest_divisor
from earthheaps.ratios import least_multiple


# The fewest units that divide both evenly.
def common_units(first, second):
    return least_multiple(sum(first), sum(second))


def in_units(weights, units):
    share = units // sum(weights)
    return [weight * share for weight in weights]


def mapped_weights(weights, targets):
    mapped = [0] * len(weights)
    for point, weight in enumerate(weights):
        mapped[targets[point]] += weight
    return mapped


def mean_weights(first, second):
    units = common_units(first, second)
    mean = in_units(first, units)
    for point, amount in enumerate(in_units(second, units)):
        mean[point] += amount
    return without_divisor(mean)


# Else the weights would grow with every mean that is taken of others.
def without_divisor(weights):
    divisor = 0
    for weight in weights:
        divisor = greatest_divisor(weight, divisor)
    return [weight // divisor for weight in weights]
