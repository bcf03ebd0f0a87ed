"""Rings: where walkers stand round by round on one ladder, until they are at home again."""

from rungrepeats.checks import check_post, check_size
from rungrepeats.circles import from_least
from rungrepeats.sizes import home_with, sizes_from
from rungrepeats.walks import round_of


def _ring_from(after, post):
    """Return the ring of a post, from this post on, where `after` tells where a round leads from each post."""
    ring = [post]
    while after[ring[-1]] != post:
        ring.append(after[ring[-1]])
    return ring


def rings_of(rule, n):
    """Return the list of the rings, ordered by their least posts, each starting with it."""
    after = round_of(rule, n)
    rings = []
    seen = set()
    for post in range(n):
        if post not in seen:
            ring = _ring_from(after, post)
            for at in ring:
                seen.add(at)
            rings.append(ring)
    return rings


def ring_of(rule, n, post):
    """Return the ring of a post, from this post on."""
    check_size(n)
    check_post(post, n)
    return _ring_from(round_of(rule, n), post)


def sizes_of(rule, n):
    """Return the ascending list of the tuples (length, many), for each length of which there are rings."""
    return sizes_from([(len(ring), 1) for ring in rings_of(rule, n)])


def home_of(rule, n):
    """Return the least number of rounds, at least 1, after which all walkers are at their first posts."""
    return home_with(sizes_of(rule, n))


def judge_rings(rule, n, told):
    """Return True if a list of lists has just the rings, in any order and from any of their posts on."""
    return sorted([from_least(ring) for ring in told]) == rings_of(rule, n)
