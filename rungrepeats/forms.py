"""Forms: the rings of a rule for all numbers of posts at once."""

from math import lcm

from rungrepeats.checks import check_half_post, check_positive, check_size
from rungrepeats.grounds import Ground
from rungrepeats.lines import Lines
from rungrepeats.periods import told_by_rests
from rungrepeats.sizes import home_with, number_with


def forms_of(rule):
    """Return the forms of a rule, a tuple (first, every, lots)."""
    lines = Lines(rule)
    return (lines.first, lines.every, lines.lots(lines.first, lines.every))


def sizes_for(rule, n):
    """Return the ascending list of the tuples (length, many), for each length of which there are rings."""
    check_size(n)
    return Ground(rule).sizes(n)


def home_for(rule, n):
    """Return the least number of rounds, at least 1, after which all walkers are at their first posts."""
    return home_with(sizes_for(rule, n))


def longest_for(rule, n):
    """Return the greatest length of a ring."""
    return sizes_for(rule, n)[-1][0]


def number_for(rule, n):
    """Return the number of the rings."""
    return number_with(sizes_for(rule, n))


def _least_k(form, length):
    """Return the least k with which a form stands for rings of a length, None if there is none."""
    least, longer, many, _ = form
    if longer > 0 and length >= least and (length - least) % longer == 0:
        return (length - least) // longer
    if longer == 0 and length == least:
        return 0 if many > 0 else 1
    return None


def first_with(rule, length):
    """Return the least n for which some ring has a length, None if there is none."""
    check_positive(length)
    lines = Lines(rule)
    for n in range(1, lines.first):
        if length in [told for told, _ in lines.ground.sizes(n)]:
            return n
    found = []
    for n in range(lines.first, lines.first + lines.every):
        for form in lines.lot(n, lines.every):
            k = _least_k(form, length)
            if k is not None:
                found.append(n + lines.every * k)
    return min(found, default=None)


def single_for(rule):
    """Return the numbers of posts with a single ring, a tuple (first, every, list)."""
    ground = Ground(rule)
    # Where more posts make more rings, there are several from one period later on, whatever there were before.
    steady = ground.steady + ground.period
    truths = [number_with(ground.sizes(n)) == 1 for n in range(1, steady + ground.period)]
    return told_by_rests(1, truths, ground.period)


def linked_for(rule, one, other):
    """Return the numbers of posts with which two posts are on one ring, a tuple (first, every, list)."""
    check_half_post(one)
    check_half_post(other)
    ground = Ground(rule)
    least = max(one, other) + 1
    # Both posts have to be on the left of where the turns at the right end begin.
    steady = least + ground.steady
    truths = [ground.mark_of(n, one) == ground.mark_of(n, other) for n in range(least, steady + ground.period)]
    return told_by_rests(least, truths, ground.period)


def first_unlike_sizes(one, other):
    """Return the least n for which the rings of two rules do not have the same lengths, None if there is none."""
    mine = Lines(one)
    theirs = Lines(other)
    first = max(mine.first, theirs.first)
    every = lcm(mine.every, theirs.every)
    # Forms that are not the same ones tell other rings for some n, so the search needs an end for the same ones only.
    alike = mine.lots(first, every) == theirs.lots(first, every)
    n = 1
    while not alike or n < first:
        if mine.ground.sizes(n) != theirs.ground.sizes(n):
            return n
        n += 1
    return None


def judge_forms(rule, told):
    """Return True if a tuple (first, every, lots) tells the rings of a rule, otherwise False."""
    first, every, lots = told
    if every < 1 or len(lots) != every:
        return False
    lines = Lines(rule)
    if first < lines.first or every % lines.every != 0:
        return False
    return lots == lines.lots(first, every)
