"""Seen: rules that fit what was seen of walkers."""

from rungrepeats.checks import check_number, check_positive, check_post, check_size
from rungrepeats.grounds import Ground
from rungrepeats.marks import is_row
from rungrepeats.rules import Rule


def _check_place(n, rounds, post):
    """Refuse what is no number of posts, no number of rounds, or no post of the ladder."""
    check_size(n)
    check_number(rounds)
    check_post(post, n)


def _check_looks(looks):
    """Refuse looks of which one is none."""
    for n, rounds, post, end in looks:
        _check_place(n, rounds, post)
        check_post(end, n)


def _agrees(rule, looks):
    """Return True if a rule agrees with all looks, otherwise False."""
    ground = Ground(rule)
    for n, rounds, post, end in looks:
        if ground.after_rounds(n, post, rounds) != end:
            return False
    return True


def fitting(rules, looks):
    """Return the ascending list of the indexes of the rules that agree with all looks."""
    _check_looks(looks)
    return [index for index, rule in enumerate(rules) if _agrees(rule, looks)]


def _rows_of(width):
    """Return the ascending list of the rows of a width."""
    texts = [""]
    for _ in range(width):
        texts = [text + mark for text in texts for mark in "-." if "--" not in text + mark]
    return [text for text in texts if is_row(text)]


def _rules_of(width, height):
    """Return the list of the rules of a width and a height, ordered by their lists of rows."""
    rows = _rows_of(width)
    lists = [[]]
    for _ in range(height):
        lists = [texts + [row] for texts in lists for row in rows]
    return [Rule(texts) for texts in lists]


def all_fitting(width, height, looks):
    """Return the list of the rules of a width and a height that agree with all looks, ordered by their rows."""
    check_positive(width)
    check_positive(height)
    _check_looks(looks)
    return [rule for rule in _rules_of(width, height) if _agrees(rule, looks)]


def _most_alike(grounds, place):
    """Return the greatest number of rules, told by their grounds, with one and the same end of a place."""
    n, rounds, post = place
    counted = {}
    for ground in grounds:
        end = ground.after_rounds(n, post, rounds)
        counted[end] = counted.get(end, 0) + 1
    return max(list(counted.values()), default=0)


def best_look(rules, places):
    """Return the first place for which the greatest number of rules with one and the same end is the least.

    None if there are no places.
    """
    for n, rounds, post in places:
        _check_place(n, rounds, post)
    if len(places) == 0:
        return None
    grounds = [Ground(rule) for rule in rules]
    most = [_most_alike(grounds, place) for place in places]
    return places[most.index(min(most))]
