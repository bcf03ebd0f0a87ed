"""Ends: how walkers turn from lane to lane at the one end of the half row."""

from rungrepeats.checks import check_half_post, check_number
from rungrepeats.grounds import Ground

# The number of the posts of the half row, as Ground asks for it.
HALF = None


def _way_off(ground, post):
    """Return the tuple (rounds, post) from which on a walker who goes off for ever comes near the end no more."""
    rounds = 0
    at = post
    gone = ground.to_end(HALF, at)
    while gone is not None:
        rounds = rounds + gone[0] + 1
        at = ground.after_round(HALF, gone[1])
        gone = ground.to_end(HALF, at)
    return (rounds, at)


def turns(rule):
    """Return the ascending list of the tuples (x, y, wait), one for each strand x of a lane with a shift below 0."""
    ground = Ground(rule)
    # From so many times the shift a walker goes through the lane once, at least, before the end is near.
    laps = ground.steady
    told = []
    for rests, shift in ground.course.lanes:
        for x in range(rests[0], -shift, rule.width):
            rounds, post = _way_off(ground, x - laps * shift)
            y, since = ground.course.strand_of(post)
            told.append((x, y, rounds - laps * len(rests) - since))
    return sorted(told)


def half_after(rule, post, rounds):
    """Return where a walker from a post stands on the half row after so many rounds."""
    check_half_post(post)
    check_number(rounds)
    return Ground(rule).after_rounds(HALF, post, rounds)


def half_ring(rule, post):
    """Return the ring of a post on the half row, from this post on, None if the walker goes off for ever."""
    check_half_post(post)
    ground = Ground(rule)
    length = ground.length_at(HALF, post)
    if length is None:
        return None
    ring = [post]
    while len(ring) < length:
        ring.append(ground.after_round(HALF, ring[-1]))
    return ring


def judge_turns(rule, told):
    """Return True if a list of tuples (x, y, wait) has just the turns, in any order, otherwise False."""
    return sorted(told) == turns(rule)
