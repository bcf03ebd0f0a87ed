"""Alike: whether rounds of rules do the same, for every number of posts."""

from math import lcm

from rungrepeats.checks import check_positive
from rungrepeats.rules import Rule
from rungrepeats.walks import round_of


def _enough_posts(width, height):
    """Return the number of posts up to which rules tell that they do the same.

    For more posts, rungs at the left end, at the right end and between them are as for one of these numbers.
    """
    return width + 2 * height


def first_unlike(one, other):
    """Return the least number of posts, and the least post, for which rounds do not do the same, None if none."""
    last = _enough_posts(lcm(one.width, other.width), max(one.height, other.height))
    for n in range(1, last + 1):
        mine = round_of(one, n)
        theirs = round_of(other, n)
        for post in range(n):
            if mine[post] != theirs[post]:
                return (n, post)
    return None


def same_round(one, other):
    """Return True if a round of the one rule does the same as one of the other, for all numbers of posts."""
    return first_unlike(one, other) is None


def same_rounds(one, rounds, other, other_rounds):
    """Return True if so many rounds of the one rule do the same as so many of the other, for all numbers of posts."""
    check_positive(rounds)
    check_positive(other_rounds)
    return same_round(Rule(one.rows * rounds), Rule(other.rows * other_rounds))


def may_exchange(one, other):
    """Return True if rounds of two rules do the same in both orders, for all numbers of posts, otherwise False."""
    return same_round(one.then(other), other.then(one))


def idle_rows(rule):
    """Return the ascending list of the indexes of the rows without which a round does the same."""
    # What the rows before it and behind it do can be undone, so such a row changes nothing by itself.
    return [index for index, row in enumerate(rule.rows) if "-" not in row]


def _moves_of(row, last):
    """Return where a row leads to from each post of the ladders with 1 post, with 2 posts and so on, in one list.

    The posts of each ladder are numbered behind those of the ladders before it.
    """
    moves = []
    for n in range(1, last + 1):
        before = len(moves)
        moves.extend([before + post for post in round_of(Rule([row]), n)])
    return moves


def _led_on(places, moves):
    """Return where walkers at these places are led to."""
    return tuple([moves[at] for at in places])


def shortest(rule):
    """Return the rule with the fewest of these rows, and of several the least list of them, that does the same."""
    last = _enough_posts(rule.width, rule.height)
    moves = {row: _moves_of(row, last) for row in sorted(set(rule.rows))}
    home = tuple(range(len(moves[rule.rows[0]])))
    wanted = home
    for row in rule.rows:
        wanted = _led_on(wanted, moves[row])
    found = {}
    ways = [([], home)]
    while wanted not in found:
        longer = []
        for rows, places in ways:
            for row in moves:
                led = _led_on(places, moves[row])
                # The rows come in ascending order, so of as many rows the least list is the first one.
                if led not in found:
                    found[led] = rows + [row]
                    longer.append((found[led], led))
        ways = longer
    return Rule(found[wanted])
