"""Turns: the strides of children with weights, and packets that bring two of them as far apart as can be."""

from math import gcd, lcm

from nextbough.checks import is_below, is_integer, need
from nextbough.forktexts import GREATEST_WEIGHT, LEAST_CHILDREN
from nextbough.shapekinds import MOST_CHILDREN


def turn_strides(weights):
    """The strides of the children."""
    need(are_weights(weights), "weights")
    return strides_of(weights)


def turns_bound(weights, one, other):
    """The sum of the strides of two children."""
    need(are_weights(weights), "weights")
    need_children(one, other, len(weights))
    strides = strides_of(weights)
    return strides[one] + strides[other]


def meeting_deeds(weights, one, other):
    """What comes to and departs from a fork with turns, by which two children get as far apart as can be."""
    need(are_weights(weights), "weights")
    need_children(one, other, len(weights))
    strides = strides_of(weights)
    shared = gcd(strides[one], strides[other])
    ours = strides[one] // shared
    theirs = strides[other] // shared
    deeds = [("in", other)] + [("in", one)] * (theirs + 1) + [("out", None)]
    return tuple(deeds + [("in", other)] * ours + [("out", None)] * (ours + theirs))


def are_weights(thing):
    """Whether thing is the weights of a fork with turns."""
    if not isinstance(thing, tuple) or not LEAST_CHILDREN <= len(thing) <= MOST_CHILDREN:
        return False
    return all([is_integer(weight) and 1 <= weight <= GREATEST_WEIGHT for weight in thing])


def need_children(one, other, many):
    """Refuses one and other unless they are two different children of so many."""
    need(is_below(one, many), "one")
    need(is_below(other, many) and other != one, "other")


def strides_of(weights):
    """What turn_strides tells, the weights being as stated."""
    least = 1
    for weight in weights:
        least = lcm(least, weight)
    return tuple([least // weight for weight in weights])
