"""Lanes: how walkers are moved round by round on the endless row."""

from math import gcd

from rungrepeats.checks import check_number
from rungrepeats.circles import from_least


def _past_row(rule, row, post):
    """Return where a walker on the endless row stands behind a row, who stands at a post ahead of it."""
    if rule.has_rung(row, post % rule.width):
        return post + 1
    if rule.has_rung(row, (post - 1) % rule.width):
        return post - 1
    return post


def step_of(rule, post):
    """Return by how many posts a walker from a post on the endless row is moved in one round."""
    at = post
    for row in range(rule.height):
        at = _past_row(rule, row, at)
    return at - post


def lane_from(rule, post):
    """Return the lane of a post, told from the rest of this post on."""
    rests = []
    at = post
    while at % rule.width not in rests:
        rests.append(at % rule.width)
        at = at + step_of(rule, at)
    return (rests, at - post)


def lanes_of(rule):
    """Return the list of the lanes, tuples (rests, shift), ordered by their first rests."""
    lanes = [lane_from(rule, rest) for rest in range(rule.width)]
    return [(rests, shift) for rests, shift in lanes if rests[0] == min(rests)]


def flow_of(rule):
    """Return the sum of the shifts above 0, divided by the width."""
    return sum([shift for _, shift in lanes_of(rule) if shift > 0]) // rule.width


def drift(rule, post):
    """Return the shift of the lane of a post divided by the number of its rests, as a fraction."""
    rests, shift = lane_from(rule, post)
    common = gcd(shift, len(rests))
    return (shift // common, len(rests) // common)


def inner_after(rule, post, rounds):
    """Return where a walker from a post stands on the endless row after so many rounds."""
    check_number(rounds)
    rests, shift = lane_from(rule, post)
    at = post + rounds // len(rests) * shift
    for _ in range(rounds % len(rests)):
        at = at + step_of(rule, at)
    return at


def judge_lanes(rule, told):
    """Return True if a list of tuples (rests, shift) has just the lanes, in any order and from any rests on."""
    return sorted([(from_least(rests), shift) for rests, shift in told]) == lanes_of(rule)
