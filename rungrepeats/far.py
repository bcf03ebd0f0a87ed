"""Far: single walkers on ladders with very many posts, after very many rounds."""

from rungrepeats.checks import check_number, check_post, check_size
from rungrepeats.grounds import Ground
from rungrepeats.walks import walk_of


def _check_way(n, post, number):
    """Refuse what is no number of posts, no post of the ladder, or no number of rounds or rows."""
    check_size(n)
    check_post(post, n)
    check_number(number)


def place_after(rule, n, post, rounds):
    """Return the post at which a walker from a post stands after so many rounds."""
    _check_way(n, post, rounds)
    return Ground(rule).after_rounds(n, post, rounds)


def comes_from(rule, n, post, rounds):
    """Return the post from which the walker came that stands at a post after so many rounds."""
    _check_way(n, post, rounds)
    ground = Ground(rule)
    # The walker that came from there goes home on the same ring.
    return ground.after_rounds(n, post, -rounds % ground.length_at(n, post))


def out_rows(rule, n, post, rows):
    """Return the post at which a walker from a post stands behind so many rows."""
    _check_way(n, post, rows)
    rounds, more = divmod(rows, rule.height)
    return walk_of(rule, n, Ground(rule).after_rounds(n, post, rounds), more)[-1]


def ring_length(rule, n, post):
    """Return the length of the ring of a post."""
    check_size(n)
    check_post(post, n)
    return Ground(rule).length_at(n, post)


def _are_linked(ground, n, one, other):
    """Return True if two posts are on one ring, otherwise False."""
    return ground.mark_of(n, one) == ground.mark_of(n, other)


def linked(rule, n, one, other):
    """Return True if two posts are on one ring, otherwise False."""
    check_size(n)
    check_post(one, n)
    check_post(other, n)
    return _are_linked(Ground(rule), n, one, other)


def rounds_to(rule, n, one, other):
    """Return the least number of rounds after which a walker from the one post stands at the other, None if never."""
    check_size(n)
    check_post(one, n)
    check_post(other, n)
    ground = Ground(rule)
    if not _are_linked(ground, n, one, other):
        return None
    rounds = 0
    at = one
    more = ground.rounds_ahead(n, at, other)
    while more is None:
        gone, end = ground.to_end(n, at)
        rounds = rounds + gone + 1
        at = ground.after_round(n, end)
        more = ground.rounds_ahead(n, at, other)
    return rounds + more


def _turns_let(ground, n, begin, post):
    """Return the greatest number of turns of a leg from a post, on the ring that begins at a post."""
    rests, shift = ground.course.lap_of(post)
    if shift == 0:
        return 0
    rounds, _ = ground.to_end(n, post)
    home = ground.rounds_ahead(n, post, begin)
    # Only the very first leg starts where the ring begins, and it may do so.
    if home is not None and post != begin:
        rounds = home
    return rounds // rests


def _leg_end(ground, n, post, many):
    """Return where a leg from a post ends that has so many turns, or none."""
    if many == 0:
        return ground.after_round(n, post)
    return post + many * ground.course.lap_of(post)[1]


def legs(rule, n, post):
    """Return the way round the ring of a post, a list of the tuples (post, turns)."""
    check_size(n)
    check_post(post, n)
    ground = Ground(rule)
    told = []
    at = post
    while len(told) == 0 or at != post:
        many = _turns_let(ground, n, post, at)
        told.append((at, many))
        at = _leg_end(ground, n, at, many)
    return told


def judge_legs(rule, n, told):
    """Return True if a list of tuples (post, turns) leads once round the ring of its first post, otherwise False."""
    check_size(n)
    if len(told) == 0 or told[0][0] < 0 or told[0][0] >= n:
        return False
    ground = Ground(rule)
    begin = told[0][0]
    at = begin
    for index, (post, many) in enumerate(told):
        if post != at or (index > 0 and at == begin):
            return False
        if many < 0 or many > _turns_let(ground, n, begin, at):
            return False
        at = _leg_end(ground, n, at, many)
    return at == begin
