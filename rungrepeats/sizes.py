"""Sizes: ascending lists of tuples (length, many) that tell how many rings there are of each length."""

from math import lcm


def sizes_from(counted):
    """Return the sizes with tuples (length, many) in any order, of which several may have one length, or none many."""
    found = {}
    for length, many in counted:
        found[length] = found.get(length, 0) + many
    return [(length, many) for length, many in sorted(found.items()) if many > 0]


def home_with(sizes):
    """Return the least number of rounds, at least 1, after which all walkers are at home, with rings of these sizes."""
    rounds = 1
    for length, _ in sizes:
        rounds = lcm(rounds, length)
    return rounds


def number_with(sizes):
    """Return the number of the rings of these sizes."""
    return sum([many for _, many in sizes])
