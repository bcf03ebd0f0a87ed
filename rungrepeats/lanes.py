"""Lanes: how walkers are moved round by round on the endless row."""

from math import gcd

from rungrepeats.checks import check_number
from rungrepeats.circles import from_least


def _past_row(rule, row, post):
    """Return where a walker on the endless row stands behind a row, who stands at a post ahead of it."""
    if rule.has_rung(row, post % rule.width):
        return post + 1
    if rule.has_rung(row, (post - 1) % rule.width):
        return post - 1
    return post


def step_of(rule, post):
    """Return by how many posts a walker from a post on the endless row is moved in one round."""
    at = post
    for row in range(rule.height):
        at = _past_row(rule, row, at)
    return at - post


def steps_of(rule):
    """Return, for each rest by the width, by how many posts a walker is moved in one round from posts with it."""
    return [step_of(rule, rest) for rest in range(rule.width)]


def lane_with(steps, post):
    """Return the lane of a post, told from the rest of this post on, where these are the steps from all rests."""
    rests = []
    at = post
    while at % len(steps) not in rests:
        rests.append(at % len(steps))
        at = at + steps[at % len(steps)]
    return (rests, at - post)


def lanes_of(rule):
    """Return the list of the lanes, tuples (rests, shift), ordered by their first rests."""
    steps = steps_of(rule)
    lanes = [lane_with(steps, rest) for rest in range(len(steps))]
    return [(rests, shift) for rests, shift in lanes if rests[0] == min(rests)]


def flow_of(rule):
    """Return the sum of the shifts above 0, divided by the width."""
    return sum([shift for _, shift in lanes_of(rule) if shift > 0]) // rule.width


def drift(rule, post):
    """Return the shift of the lane of a post divided by the number of its rests, as a fraction."""
    rests, shift = lane_with(steps_of(rule), post)
    common = gcd(shift, len(rests))
    return (shift // common, len(rests) // common)


def inner_after(rule, post, rounds):
    """Return where a walker from a post stands on the endless row after so many rounds."""
    check_number(rounds)
    steps = steps_of(rule)
    rests, shift = lane_with(steps, post)
    at = post + rounds // len(rests) * shift
    for _ in range(rounds % len(rests)):
        at = at + steps[at % len(steps)]
    return at


def judge_lanes(rule, told):
    """Return True if a list of tuples (rests, shift) has just the lanes, in any order and from any rests on."""
    return sorted([(from_least(rests), shift) for rests, shift in told]) == lanes_of(rule)
