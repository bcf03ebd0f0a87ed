"""Walks down the rows of a ladder."""

from rungrepeats.checks import check_number, check_post, check_size


def _past_row(rule, n, row, post):
    """Return where a walker stands behind a row, who stands at a post ahead of it."""
    if post + 1 < n and rule.has_rung(row, post):
        return post + 1
    if post > 0 and rule.has_rung(row, post - 1):
        return post - 1
    return post


def _way(rule, n, post, rows):
    """Return the posts of a walker ahead of the first row and behind each of so many rows."""
    way = [post]
    for row in range(rows):
        way.append(_past_row(rule, n, row, way[row]))
    return way


def _rungs_crossed(rule, n, post, rows):
    """Return the left posts of the rungs that a walker crosses, row by row, None where it crosses none."""
    way = _way(rule, n, post, rows)
    return [None if way[row] == way[row + 1] else min(way[row], way[row + 1]) for row in range(rows)]


def walk_of(rule, n, post, rows):
    """Return the posts of a walker from a post, ahead of the first row and behind each of so many rows."""
    check_size(n)
    check_post(post, n)
    check_number(rows)
    return _way(rule, n, post, rows)


def round_of(rule, n):
    """Return, for each post, the post at which a walker from it stands after one round."""
    check_size(n)
    return [_way(rule, n, post, rule.height)[-1] for post in range(n)]


def partners(rule, n, post, rows):
    """Return the first posts, ascending, of the others with whom a walker shares a rung in so many rows."""
    check_size(n)
    check_post(post, n)
    check_number(rows)
    found = set()
    starts = list(range(n))
    here = post
    for row in range(rows):
        there = _past_row(rule, n, row, here)
        if there != here:
            found.add(starts[there])
        # Who stands at a post behind a row came to it from where a walker at this post would go.
        starts = [starts[_past_row(rule, n, row, at)] for at in range(n)]
        here = there
    return sorted(found)


def meets(rule, n, one, other, rows):
    """Return in how many of the first so many rows the walkers from two posts cross the same rung.

    Where both are one, these are the rows in which it crosses a rung.
    """
    check_size(n)
    check_post(one, n)
    check_post(other, n)
    check_number(rows)
    mine = _rungs_crossed(rule, n, one, rows)
    theirs = _rungs_crossed(rule, n, other, rows)
    return len([row for row in range(rows) if mine[row] is not None and mine[row] == theirs[row]])
