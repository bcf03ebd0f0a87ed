"""Tests of rungrepeats/far.py: single walkers on ladders with very many posts, with promises [2], [3], [5] and [6]."""

import unittest

from helper import (
    GREAT, HUGE, LATE, SAMPLES, SMALL, check_examples, check_interface, check_new_lists, check_refused, large_texts,
    plain_inner, plain_rings, plain_round, plain_walk,
)
from rungrepeats import far
from rungrepeats.errors import InvalidNumber, InvalidPost, InvalidSize
from rungrepeats.far import comes_from, judge_legs, legs, linked, out_rows, place_after, ring_length, rounds_to
from rungrepeats.forms import number_for, sizes_for
from rungrepeats.lanes import lanes_of
from rungrepeats.rules import Rule

EXAMPLE = """
>>> from rungrepeats.far import comes_from, judge_legs, legs, linked, out_rows, place_after, ring_length, rounds_to
>>> from rungrepeats.rules import Rule
>>> bricks = Rule(["-.", ".-"])
>>> [place_after(bricks, 10 ** 30, 0, 10 ** 29), comes_from(bricks, 10 ** 30, 0, 1), out_rows(bricks, 4, 0, 10 ** 20 + 1), ring_length(bricks, 10 ** 30, 5), linked(Rule(["-."]), 10 ** 30, 6, 7), rounds_to(bricks, 10 ** 20, 0, 1), rounds_to(Rule(["-."]), 9, 2, 4), legs(bricks, 9, 0), judge_legs(bricks, 4, [(0, 0), (2, 0), (3, 0), (1, 0)])]
[200000000000000000000000000000, 1, 1, 1000000000000000000000000000000, True, 99999999999999999999, None, [(0, 0), (2, 3), (8, 0), (7, 0), (5, 2), (1, 0)], True]
"""

TEXTS = SMALL + GREAT + LATE + SAMPLES
SIZES = (1, 2, 3, 5, 8, 13, 20, 33)
FAR = 10 ** 62 - 1
ROUNDS = 10 ** 120
BRICKS = Rule(["-.", ".-"])
PAIRS = Rule(["-."])


def some_posts(n):
    """Give posts of a ladder, all of a small one."""
    return range(n) if n < 6 else sorted({0, 1, n // 3, n // 2, n // 2 + 1, n - 1})


def plain_ring(texts, n, post):
    """Give the ring of a post, from it on."""
    after = plain_round(texts, n)
    ring = [post]
    while after[ring[-1]] != post:
        ring.append(after[ring[-1]])
    return ring


def lane_of(texts, post):
    """Give the number of the rests and the shift of the lane of a post."""
    for rests, shift in lanes_of(Rule(texts)):
        if post % len(texts[0]) in rests:
            return len(rests), shift
    return None


def turns_on(texts, n, ring, at):
    """Count by the words of the document, round by round, the turns of a leg from an entry of a ring."""
    height = len(texts)
    rests, shift = lane_of(texts, ring[at])
    rounds = at
    while shift and height <= ring[rounds % len(ring)] <= n - 1 - height and (rounds == 0 or rounds % len(ring)):
        rounds += 1
    return (rounds - at) // rests


def plain_legs(texts, n, post):
    """Give the legs of the ring of a post, by its entries."""
    ring = plain_ring(texts, n, post)
    told = []
    at = 0
    while at < len(ring):
        turns = turns_on(texts, n, ring, at)
        told.append((ring[at], turns))
        at += turns * lane_of(texts, ring[at])[0] or 1
    return told


def plain_judge(texts, n, told):
    """Say whether a list of legs leads once round the ring of its first post, by the entries of this ring."""
    if not told or not 0 <= told[0][0] < n:
        return False
    ring = plain_ring(texts, n, told[0][0])
    at = 0
    for post, turns in told:
        if at >= len(ring) or post != ring[at] or not 0 <= turns <= turns_on(texts, n, ring, at):
            return False
        at += turns * lane_of(texts, post)[0] or 1
    return at == len(ring)


def shorter_legs(texts, n, told):
    """Give the legs with the turns of each one told one by one, and its last turn round by round."""
    found = []
    for post, turns in told:
        rests, shift = lane_of(texts, post)
        if turns == 0:
            found.append((post, 0))
        else:
            found.extend((post + done * shift, 1) for done in range(turns - 1))
            last = post + (turns - 1) * shift
            found.extend((plain_inner(texts, last, rounds), 0) for rounds in range(rests))
    return found


def brick_ring(index, n):
    """Give the post with an index on the only ring of bricks, with an even n: the even ones up, the odd ones down."""
    index = index % n
    return 2 * index if index < n // 2 else n - 1 - 2 * (index - n // 2)


class FormTests(unittest.TestCase):
    def test_examples(self):
        check_examples(self, EXAMPLE, 4)

    def test_interface(self):
        check_interface(self, far, {
            place_after: ["rule", "n", "post", "rounds"], comes_from: ["rule", "n", "post", "rounds"],
            out_rows: ["rule", "n", "post", "rows"], ring_length: ["rule", "n", "post"],
            linked: ["rule", "n", "one", "other"], rounds_to: ["rule", "n", "one", "other"],
            legs: ["rule", "n", "post"], judge_legs: ["rule", "n", "told"],
        })

    def test_arguments_by_name(self):
        self.assertEqual(place_after(rounds=3, post=0, n=9, rule=BRICKS), 6)
        self.assertEqual(comes_from(rounds=3, post=6, n=9, rule=BRICKS), 0)
        self.assertEqual(out_rows(rows=3, post=0, n=9, rule=BRICKS), 3)
        self.assertEqual(ring_length(post=0, n=9, rule=BRICKS), 9)
        self.assertIs(linked(other=3, one=2, n=9, rule=PAIRS), True)
        self.assertEqual(rounds_to(other=1, one=0, n=9, rule=BRICKS), 8)
        self.assertEqual(legs(post=2, n=9, rule=PAIRS), [(2, 0), (3, 0)])
        self.assertIs(judge_legs(told=[(2, 0), (3, 0)], n=9, rule=PAIRS), True)

    def test_new_lists_and_kinds(self):
        for texts in GREAT + SAMPLES:
            rule = Rule(texts)
            for n in (3, 30, HUGE):
                check_new_lists(self, lambda: legs(rule, n, 2))
                for leg in legs(rule, n, 2):
                    self.assertEqual([kind.__class__ for kind in (leg, *leg)], [tuple, int, int])
            self.assertEqual(rule.rows, texts)


class SmallTests(unittest.TestCase):
    """Every post of small ladders, against walks round by round."""

    def test_places_and_where_walkers_came_from(self):
        for texts in TEXTS:
            rule = Rule(texts)
            for n in SIZES:
                for post in some_posts(n):
                    way = plain_walk(texts, n, post, 7 * len(texts))
                    for rounds in (0, 1, 2, 7):
                        there = way[rounds * len(texts)]
                        self.assertEqual(place_after(rule, n, post, rounds), there)
                        self.assertEqual(comes_from(rule, n, there, rounds), post)

    def test_many_rounds(self):
        for texts in TEXTS:
            rule = Rule(texts)
            for n in SIZES:
                for ring in plain_rings(texts, n)[:3]:
                    for rounds in (100, ROUNDS):
                        ahead = ring[(1 + rounds) % len(ring)]
                        self.assertEqual(place_after(rule, n, ring[1 % len(ring)], rounds), ahead)
                        self.assertEqual(comes_from(rule, n, ahead, rounds), ring[1 % len(ring)])

    def test_rows(self):
        for texts in TEXTS:
            rule = Rule(texts)
            for n in SIZES:
                for post in some_posts(n)[::2]:
                    way = plain_walk(texts, n, post, 50)
                    for rows in list(range(len(texts) + 2)) + [50]:
                        self.assertEqual(out_rows(rule, n, post, rows), way[rows])

    def test_many_rows(self):
        for texts in TEXTS:
            rule = Rule(texts)
            height = len(texts)
            for n in SIZES:
                for post in some_posts(n)[::3]:
                    ring = plain_ring(texts, n, post)
                    for rows in (ROUNDS, ROUNDS - 1, ROUNDS // height * height):
                        at = ring[rows // height % len(ring)]
                        self.assertEqual(out_rows(rule, n, post, rows), plain_walk(texts, n, at, rows % height)[-1])

    def test_lengths_links_and_rounds_between(self):
        for texts in TEXTS:
            rule = Rule(texts)
            for n in SIZES:
                for one in some_posts(n):
                    ring = plain_ring(texts, n, one)
                    self.assertEqual(ring_length(rule, n, one), len(ring))
                    for other in some_posts(n):
                        self.assertIs(linked(rule, n, one, other), other in ring)
                        wanted = ring.index(other) if other in ring else None
                        self.assertEqual(rounds_to(rule, n, one, other), wanted)

    def test_legs(self):
        for texts in TEXTS:
            rule = Rule(texts)
            for n in SIZES + (64,):
                for post in some_posts(n):
                    told = legs(rule, n, post)
                    self.assertEqual(told, plain_legs(texts, n, post), (texts, n, post))

    def test_known_legs(self):
        self.assertEqual(legs(BRICKS, 1, 0), [(0, 0)])
        self.assertEqual(legs(BRICKS, 5, 2), [(2, 1), (4, 0), (3, 0), (1, 0), (0, 0)])
        # A leg ends at the post from which the ring begins, and the first one may begin at it.
        self.assertEqual(legs(BRICKS, 9, 4), [(4, 2), (8, 0), (7, 0), (5, 2), (1, 0), (0, 0), (2, 1)])
        self.assertEqual(legs(BRICKS, HUGE, 2), [
            (2, HUGE // 2 - 2), (HUGE - 2, 0), (HUGE - 1, 0), (HUGE - 3, HUGE // 2 - 2), (1, 0), (0, 0)])
        self.assertEqual(legs(PAIRS, HUGE, 10 ** 20), [(10 ** 20, 0), (10 ** 20 + 1, 0)])
        self.assertEqual(legs(Rule(["."]), HUGE, 10 ** 20), [(10 ** 20, 0)])


class GreatTests(unittest.TestCase):
    """Very many posts, rounds and rows."""

    def test_bricks(self):
        for n in (HUGE, HUGE - 2, 10 ** 20):
            for index in (0, 1, n // 2 - 1, n // 2, n // 3, n - 1):
                post = brick_ring(index, n)
                self.assertEqual(ring_length(BRICKS, n, post), n)
                for rounds in (0, 1, n // 2, n - 1, 10 ** 29 + 1, ROUNDS, ROUNDS - 1, 10 ** 119 + 7):
                    ahead = brick_ring(index + rounds, n)
                    self.assertEqual(place_after(BRICKS, n, post, rounds), ahead)
                    self.assertEqual(comes_from(BRICKS, n, ahead, rounds), post)
                    self.assertEqual(rounds_to(BRICKS, n, post, ahead), rounds % n)
                    self.assertIs(linked(BRICKS, n, post, ahead), True)
                    self.assertEqual(out_rows(BRICKS, n, post, 2 * rounds), ahead)
                    behind = plain_walk(["-.", ".-"], n, ahead, 1)[-1]
                    self.assertEqual(out_rows(BRICKS, n, post, 2 * rounds + 1), behind)

    def test_pairs(self):
        for post in (0, 10 ** 29, HUGE - 2):
            for rounds in (0, 1, ROUNDS, ROUNDS - 1):
                ahead = post + rounds % 2
                self.assertEqual(place_after(PAIRS, HUGE, post, rounds), ahead)
                self.assertEqual(comes_from(PAIRS, HUGE, ahead, rounds), post)
                self.assertEqual(rounds_to(PAIRS, HUGE, post, ahead), rounds % 2)
            self.assertIs(linked(PAIRS, HUGE, post, HUGE // 2), False)
            self.assertIs(rounds_to(PAIRS, HUGE, post, HUGE // 2), None)
        self.assertEqual([ring_length(PAIRS, HUGE, HUGE - 1), ring_length(PAIRS, HUGE + 1, HUGE)], [2, 1])

    def test_forward_and_back(self):
        for texts in TEXTS:
            rule = Rule(texts)
            for n in (HUGE, HUGE - 1, 10 ** 9 + 7):
                for post in (0, 1, n // 3, n - 2, n - 1):
                    for rounds in (1, 10 ** 30 + 3, ROUNDS):
                        there = place_after(rule, n, post, rounds)
                        self.assertEqual(comes_from(rule, n, there, rounds), post)
                        self.assertEqual(place_after(rule, n, comes_from(rule, n, post, rounds), rounds), post)
                        self.assertEqual(place_after(rule.inverse(), n, there, rounds), post)
                        self.assertEqual(out_rows(rule, n, post, rounds * len(texts)), there)
                        self.assertIs(linked(rule, n, post, there), True)
                        length = ring_length(rule, n, post)
                        self.assertEqual(rounds_to(rule, n, post, there), rounds % length)
                        self.assertEqual(rounds_to(rule, n, there, post), -rounds % length)

    def test_many_rounds_are_few_after_many(self):
        for texts in TEXTS:
            rule = Rule(texts)
            for n in (HUGE, HUGE - 1, HUGE - 5):
                for post in (0, 3, n // 2 + 1, n - 1):
                    for rounds in (10 ** 28, 10 ** 30 + 3, ROUNDS):
                        before = place_after(rule, n, post, rounds - 3)
                        at = plain_walk(texts, n, before, 3 * len(texts))[-1]
                        self.assertEqual(place_after(rule, n, post, rounds), at)

    def test_from_the_other_side(self):
        for texts in TEXTS:
            rule = Rule(texts)
            for n in (HUGE, HUGE - 1, HUGE - 3):
                mirrored = rule.mirrored(n)
                for post in (0, 2, n // 7, n - 1):
                    for rounds in (10 ** 29, ROUNDS - 5):
                        there = place_after(rule, n, post, rounds)
                        self.assertEqual(place_after(mirrored, n, n - 1 - post, rounds), n - 1 - there)
                    self.assertEqual(ring_length(mirrored, n, n - 1 - post), ring_length(rule, n, post))

    def test_lengths_grow_evenly(self):
        for texts in GREAT + LATE + SAMPLES:
            rule = Rule(texts)
            every = 60 * len(texts[0])
            for post in range(min(len(texts), 4)):
                for n in (200, 201, 205):
                    one = len(plain_ring(texts, n, post))
                    more = len(plain_ring(texts, n + every, post)) - one
                    for k in (3, 10 ** 26):
                        self.assertEqual(ring_length(rule, n + every * k, post), one + more * k)

    def test_as_the_forms_tell(self):
        for texts in GREAT + LATE + SAMPLES:
            rule = Rule(texts)
            for n in (HUGE, HUGE - 1):
                lengths = [length for length, _ in sizes_for(rule, n)]
                for post in (0, n // 2, n // 2 + 1, n - 1):
                    self.assertIn(ring_length(rule, n, post), lengths)
                single = number_for(rule, n) == 1
                self.assertIs(all(linked(rule, n, 0, other) for other in range(30)) and single, single)

    def test_legs_are_the_ring(self):
        for texts in TEXTS:
            rule = Rule(texts)
            for n in (HUGE, HUGE - 1, HUGE - 3):
                for post in (0, 5, n // 2, n - 1):
                    told = legs(rule, n, post)
                    self.assertIs(judge_legs(rule, n, told), True)
                    rounds = 0
                    for (at, turns), (behind, _) in zip(told, told[1:] + told[:1]):
                        self.assertEqual(rounds_to(rule, n, post, at), rounds)
                        more = turns * lane_of(texts, at)[0] or 1
                        self.assertEqual(place_after(rule, n, at, more), behind)
                        rounds += more
                    self.assertEqual(ring_length(rule, n, post), rounds)

    def test_rules_somewhat_greater(self):
        for texts in (large_texts(12, 12, 1), large_texts(2, 30, 3), large_texts(20, 10, 4)):
            rule = Rule(texts)
            for n in (25, 150):
                for post in (0, n // 2, n - 1):
                    ring = plain_ring(texts, n, post)
                    self.assertEqual(ring_length(rule, n, post), len(ring))
                    self.assertEqual(place_after(rule, n, post, ROUNDS * 10 ** 20), ring[ROUNDS * 10 ** 20 % len(ring)])
                    self.assertEqual(legs(rule, n, post), plain_legs(texts, n, post))
            there = place_after(rule, 10 ** 60, 10 ** 59, 10 ** 200)
            self.assertEqual(comes_from(rule, 10 ** 60, there, 10 ** 200), 10 ** 59)


class JudgeTests(unittest.TestCase):
    def check_judge(self, rule, n, told, wanted):
        kept = repr(told)
        self.assertIs(judge_legs(rule, n, told), wanted, (rule.rows, n, told))
        self.assertEqual(repr(told), kept)

    def test_right_ones(self):
        for texts in TEXTS:
            rule = Rule(texts)
            for n in (1, 2, 6, 20, 33):
                for post in range(0, n, 3):
                    told = legs(rule, n, post)
                    self.check_judge(rule, n, told, True)
                    self.check_judge(rule, n, shorter_legs(texts, n, told), True)
                    self.check_judge(rule, n, [(at, 0) for at in plain_ring(texts, n, post)], True)

    def test_wrong_ones(self):
        for texts in TEXTS:
            rule = Rule(texts)
            for n in (1, 5, 20, 33):
                for post in range(0, n, 9):
                    for told in (legs(rule, n, post), shorter_legs(texts, n, legs(rule, n, post))):
                        # Not once round, but less or more often, or the other way round.
                        self.check_judge(rule, n, told[:-1], False)
                        self.check_judge(rule, n, told + told[:1], False)
                        self.check_judge(rule, n, told + told, False)
                        if len(told) > 2:
                            self.check_judge(rule, n, told[::-1], False)
                        for index in range(0, len(told), 1 + len(told) // 3):
                            self.check_changed(rule, n, told, index)

    def check_changed(self, rule, n, told, index):
        post, turns = told[index]
        legs_instead = [(other, turns) for other in (post + 1, post - 1, n, -1, FAR, -FAR)]
        legs_instead += [(post, many) for many in (turns + 1, turns - 1, FAR, -FAR)]
        for leg in legs_instead:
            changed = told[:index] + [leg] + told[index + 1:]
            self.check_judge(rule, n, changed, plain_judge(rule.rows, n, changed))

    def test_turns_that_are_let_and_one_more(self):
        for texts in TEXTS:
            rule = Rule(texts)
            for n in (20, 41):
                for post in some_posts(n)[::2]:
                    ring = plain_ring(texts, n, post)
                    for at in range(0, len(ring), 1 + len(ring) // 6):
                        before = [(place, 0) for place in ring[:at]]
                        rests = lane_of(texts, ring[at])[0]
                        most = turns_on(texts, n, ring, at)
                        for many in {1, most, most + 1} - {0}:
                            behind = [(place, 0) for place in ring[at + many * rests:]]
                            self.check_judge(rule, n, before + [(ring[at], many)] + behind, many <= most)

    def test_known_ones(self):
        right = [(0, 0), (2, 3), (8, 0), (7, 0), (5, 2), (1, 0)]
        self.check_judge(BRICKS, 9, right, True)
        self.check_judge(BRICKS, 9, [(0, 0), (2, 1), (4, 2)] + right[2:], True)
        self.check_judge(BRICKS, 9, [(0, 0), (2, 0), (4, 1), (6, 0)] + right[2:], True)
        self.check_judge(BRICKS, 9, [], False)
        # Turns that begin too near to an end, though the way is right.
        self.check_judge(BRICKS, 9, [(0, 1)] + right[1:], False)
        self.check_judge(BRICKS, 9, [(0, 4)] + right[2:], False)
        self.check_judge(BRICKS, 9, [(0, 0), (2, 3), (8, 0), (7, 1), (5, 2), (1, 0)], False)
        self.check_judge(BRICKS, 9, [(0, 0), (2, 3), (8, 0), (7, 0), (5, 3)], False)
        # Past the post from which the ring begins, and once more round.
        later = [(4, 2)] + right[2:] + [(0, 0)]
        self.check_judge(BRICKS, 9, later + [(2, 1)], True)
        self.check_judge(BRICKS, 9, later + [(2, 0)], True)
        self.check_judge(BRICKS, 9, later + [(2, 2)], False)
        self.check_judge(BRICKS, 9, later + [(2, 3)], False)
        self.check_judge(BRICKS, 9, later + [(2, 3)] + right[2:] + [(0, 0), (2, 1)], False)
        # No turns in a lane with the shift 0.
        self.check_judge(PAIRS, 9, [(4, 0), (5, 0)], True)
        self.check_judge(PAIRS, 9, [(4, 1)], False)
        self.check_judge(Rule(["."]), 9, [(4, 0)], True)
        self.check_judge(Rule(["."]), 9, [(4, 1)], False)
        self.check_judge(Rule(["."]), 9, [(9, 0)], False)
        self.check_judge(Rule(["."]), 9, [(-1, 0)], False)

    def test_great_ones(self):
        half = HUGE // 2
        right = [(2, half - 2), (HUGE - 2, 0), (HUGE - 1, 0), (HUGE - 3, half - 2), (1, 0), (0, 0)]
        self.check_judge(BRICKS, HUGE, right, True)
        self.check_judge(BRICKS, HUGE, [(2, 1), (4, half - 3)] + right[1:], True)
        self.check_judge(BRICKS, HUGE, [(2, half - 1)] + right[2:], False)
        self.check_judge(BRICKS, HUGE, [(2, half - 3)] + right[1:], False)
        self.check_judge(BRICKS, HUGE - 1, right, False)
        ring = [(post, 0) for post in range(0, 400, 2)] + [(post, 0) for post in range(399, 0, -2)]
        self.check_judge(BRICKS, 400, ring, True)
        self.check_judge(BRICKS, 400, ring[1:] + ring[:1], True)
        self.check_judge(BRICKS, 401, ring, False)
        self.check_judge(BRICKS, HUGE, [(FAR, FAR)] * 400, False)


class RefusalTests(unittest.TestCase):
    def test_numbers_of_posts(self):
        for n in (0, -1, -FAR):
            for post in (0, -1, FAR):
                for call in (place_after, comes_from, out_rows):
                    check_refused(self, InvalidSize, n, call, BRICKS, n, post, -1)
                    check_refused(self, InvalidSize, n, call, BRICKS, n, post, 3)
                for call in (linked, rounds_to):
                    check_refused(self, InvalidSize, n, call, BRICKS, n, post, post)
                for call in (ring_length, legs):
                    check_refused(self, InvalidSize, n, call, BRICKS, n, post)
            for told in ([], [(0, 0)], [(-1, -1)]):
                check_refused(self, InvalidSize, n, judge_legs, BRICKS, n, told)

    def test_posts(self):
        for n in (1, 2, 9, HUGE):
            for post in (-1, n, n + 1, -FAR, FAR):
                for call in (place_after, comes_from, out_rows):
                    for number in (0, 3, -1, -FAR):
                        check_refused(self, InvalidPost, post, call, BRICKS, n, post, number)
                for call in (linked, rounds_to):
                    check_refused(self, InvalidPost, post, call, BRICKS, n, post, 0)
                    check_refused(self, InvalidPost, post, call, BRICKS, n, n - 1, post)
                    check_refused(self, InvalidPost, post, call, BRICKS, n, post, -7)
                    check_refused(self, InvalidPost, post, call, BRICKS, n, post, post)
                for call in (ring_length, legs):
                    check_refused(self, InvalidPost, post, call, BRICKS, n, post)

    def test_numbers_of_rounds_and_of_rows(self):
        for n in (1, 9, HUGE):
            for number in (-1, -2, -FAR):
                for post in (0, n - 1):
                    check_refused(self, InvalidNumber, number, place_after, BRICKS, n, post, number)
                    check_refused(self, InvalidNumber, number, comes_from, BRICKS, n, post, rounds=number)
                    check_refused(self, InvalidNumber, number, out_rows, BRICKS, n, post, rows=number)

    def test_the_edges_are_let(self):
        for n in (1, 2, 9, HUGE):
            for post in (0, n - 1):
                self.assertEqual(place_after(BRICKS, n, post, 0), post)
                self.assertEqual(comes_from(BRICKS, n, post, 0), post)
                self.assertEqual(out_rows(BRICKS, n, post, 0), post)
                self.assertIs(linked(BRICKS, n, post, post), True)
                self.assertEqual(rounds_to(BRICKS, n, post, post), 0)


if __name__ == "__main__":
    unittest.main()
