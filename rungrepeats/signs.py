"""Signs: how many rungs a round has, and whether it is an even exchange."""

from rungrepeats.checks import check_post, check_size
from rungrepeats.circles import repeats_after


def _rungs_in(row, n):
    """Return the number of the rungs of a row on the ladder with n posts."""
    laps, more = divmod(n - 1, len(row))
    return laps * row.count("-") + row[:more].count("-")


def rungs_of(rule, n):
    """Return the number of the rungs of one round."""
    check_size(n)
    return sum([_rungs_in(row, n) for row in rule.rows])


def rungs_at(rule, n, post):
    """Return the number of the rungs of one round between a post and the next one, 0 for the last post."""
    check_size(n)
    check_post(post, n)
    if post == n - 1:
        return 0
    return len([row for row in rule.rows if row[post % len(row)] == "-"])


def is_even(rule, n):
    """Return True if a round is an even exchange, otherwise False."""
    return rungs_of(rule, n) % 2 == 0


def even_for(rule):
    """Return the tuple (every, rests) for the numbers of posts with which a round is even."""
    # Twice the width more posts bring each rung of the rule twice, so they change nothing.
    period = 2 * rule.width
    truths = [is_even(rule, period + rest) for rest in range(period)]
    every = repeats_after(truths)
    return (every, [rest for rest in range(every) if truths[rest]])
