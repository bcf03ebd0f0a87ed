"""Tests of rungrepeats/ends.py: the half row, with promises [2], [3] and [7]."""

import itertools
import unittest

from helper import (
    EARLY, GREAT, HUGE, LATE, SAMPLES, SMALL, check_examples, check_interface, check_new_lists, check_refused,
    large_texts, plain_inner, plain_round, plain_rung,
)
from rungrepeats import ends
from rungrepeats.ends import half_after, half_ring, judge_turns, turns
from rungrepeats.errors import InvalidNumber, InvalidPost
from rungrepeats.lanes import lanes_of
from rungrepeats.rules import Rule

EXAMPLE = """
>>> from rungrepeats.ends import half_after, half_ring, judge_turns, turns
>>> from rungrepeats.rules import Rule
>>> bricks, pairs = Rule(["-.", ".-"]), Rule(["-."])
>>> [turns(bricks), half_after(bricks, 5, 10 ** 30), half_ring(bricks, 4), half_ring(pairs, 4), turns(pairs), judge_turns(bricks, [(1, 0, 2)])]
[[(1, 0, 1)], 1999999999999999999999999999994, None, [4, 5], [], False]
"""

TEXTS = SMALL + GREAT + LATE + SAMPLES
FAR = 10 ** 62 - 1
ROUNDS = 10 ** 120
LONG = 700


def plain_half(texts, post, rounds):
    """Walk down so many rounds on the half row, row by row, and give the post at the end."""
    at = post
    for row in range(rounds * len(texts)):
        if plain_rung(texts, row, at):
            at += 1
        elif at > 0 and plain_rung(texts, row, at - 1):
            at -= 1
    return at


def strands_of(texts):
    """Give, for each strand of a lane with a shift that is not 0, the shift and the number of the rests."""
    strands = {}
    for rests, shift in lanes_of(Rule(texts)):
        for x in range(abs(shift)):
            if x % len(texts[0]) == rests[0]:
                strands[x] = (shift, len(rests))
    return strands


class FormTests(unittest.TestCase):
    def test_examples(self):
        check_examples(self, EXAMPLE, 4)

    def test_interface(self):
        check_interface(self, ends, {
            turns: ["rule"], half_after: ["rule", "post", "rounds"], half_ring: ["rule", "post"],
            judge_turns: ["rule", "told"],
        })

    def test_arguments_by_name(self):
        bricks, pairs = Rule(["-.", ".-"]), Rule(["-."])
        self.assertEqual(turns(rule=bricks), [(1, 0, 1)])
        self.assertEqual(half_after(rounds=3, post=5, rule=bricks), 0)
        self.assertEqual(half_ring(post=5, rule=pairs), [5, 4])
        self.assertIs(judge_turns(told=[(1, 0, 1)], rule=bricks), True)

    def test_new_lists_and_kinds(self):
        for texts in GREAT + SAMPLES:
            rule = Rule(texts)
            check_new_lists(self, lambda: turns(rule))
            for post in range(6):
                check_new_lists(self, lambda: half_ring(rule, post))
            for turn in turns(rule):
                self.assertEqual([kind.__class__ for kind in (turn, *turn)], [tuple, int, int, int])
            self.assertEqual(rule.rows, texts)


class TurnTests(unittest.TestCase):
    def test_one_turn_for_each_strand(self):
        for texts in TEXTS:
            strands = strands_of(texts)
            told = turns(Rule(texts))
            self.assertEqual(told, sorted(told))
            self.assertEqual([x for x, _, _ in told], sorted(x for x in strands if strands[x][0] < 0))
            self.assertEqual(sorted(y for _, y, _ in told), sorted(y for y in strands if strands[y][0] > 0))

    def test_on_a_long_ladder(self):
        for texts in TEXTS:
            strands = strands_of(texts)
            after = plain_round(texts, LONG)
            for x, y, wait in turns(Rule(texts)):
                shift, m = strands[x]
                shift2, m2 = strands[y]
                for k in (150 // -shift, 150 // -shift + 1, 170 // -shift):
                    at = x - k * shift
                    way = [at]
                    for j in (200 // shift2, 200 // shift2 + 1, 250 // shift2):
                        rounds = m * k + m2 * j + wait
                        while len(way) <= rounds:
                            way.append(after[way[-1]])
                        self.assertLess(max(way), LONG - 100)
                        self.assertEqual(way[rounds], y + j * shift2, (texts, x, y, wait))

    def test_by_great_numbers(self):
        for texts in TEXTS:
            rule = Rule(texts)
            strands = strands_of(texts)
            for x, y, wait in turns(rule):
                shift, m = strands[x]
                shift2, m2 = strands[y]
                for k, j in [(10 ** 28, 10 ** 29), (10 ** 29 + 1, 10 ** 119), (200, 10 ** 27)]:
                    self.assertEqual(half_after(rule, x - k * shift, m * k + m2 * j + wait), y + j * shift2)

    def test_known_ones(self):
        bricks = Rule(["-.", ".-"])
        self.assertEqual(turns(bricks), [(1, 0, 1)])
        self.assertEqual(turns(bricks.inverse()), [(0, 1, 1)])
        self.assertEqual(turns(Rule(["."])), [])
        self.assertEqual(turns(Rule(GREAT[0])), [(0, 5, 1), (3, 1, 1), (4, 9, 2)])

    def test_waits_below_0(self):
        self.assertEqual([min(wait for _, _, wait in turns(Rule(texts))) for texts in EARLY], [-1, -4, -7])

    def test_rules_somewhat_greater(self):
        for texts in (large_texts(8, 8, 1), large_texts(2, 20, 3), large_texts(9, 9, 4), ["-.", ".-"] * 10):
            strands = strands_of(texts)
            for x, y, wait in turns(Rule(texts)):
                k, j = 400 // -strands[x][0], 300 // strands[y][0]
                rounds = strands[x][1] * k + strands[y][1] * j + wait
                self.assertEqual(plain_half(texts, x - k * strands[x][0], rounds), y + j * strands[y][0])


class HalfTests(unittest.TestCase):
    def test_after_few_rounds_on_a_long_ladder(self):
        for texts in TEXTS:
            rule = Rule(texts)
            after = plain_round(texts, LONG)
            for post in list(range(2 * len(texts) + 2)) + [40, 100]:
                at = post
                for rounds in range((LONG - 100) // len(texts)):
                    if rounds < 5 or rounds % 9 == 0:
                        self.assertEqual(half_after(rule, post, rounds), at)
                    at = after[at]
                    if rounds > 60:
                        break

    def test_after_rounds_from_far_away(self):
        for texts in SMALL[::3] + GREAT + SAMPLES:
            rule = Rule(texts)
            for post in (HUGE, HUGE + 1, FAR, FAR - 1):
                for rounds in (0, 1, 7):
                    self.assertEqual(half_after(rule, post, rounds), plain_inner(texts, post, rounds))

    def test_many_rounds_are_few_after_many(self):
        for texts in TEXTS:
            rule = Rule(texts)
            for post in list(range(12)) + [10 ** 18 + 1, FAR, FAR - 1]:
                for rounds in (1000, 10 ** 30 + 3, ROUNDS, ROUNDS - 1):
                    before = half_after(rule, post, rounds - 6)
                    self.assertGreaterEqual(before, 0)
                    self.assertEqual(half_after(rule, post, rounds), plain_half(texts, before, 6))

    def test_rings_on_a_long_ladder(self):
        for texts in TEXTS:
            rule = Rule(texts)
            after = plain_round(texts, LONG)
            for post in list(range(3 * len(texts) + 3)) + [50, 100]:
                ring = [post]
                while after[ring[-1]] != post and ring[-1] < LONG - 100:
                    ring.append(after[ring[-1]])
                self.assertEqual(half_ring(rule, post), ring if ring[-1] < LONG - 100 else None, (texts, post))

    def test_rings_far_away(self):
        for texts in TEXTS:
            rule = Rule(texts)
            width = len(texts[0])
            for rests, shift in lanes_of(rule):
                for start in range(len(rests)):
                    post = rests[start] + width * 10 ** 60
                    ring = [plain_inner(texts, post, rounds) for rounds in range(len(rests))]
                    self.assertEqual(half_ring(rule, post), None if shift else ring)

    def test_rings_repeat(self):
        for texts in TEXTS:
            rule = Rule(texts)
            for post in range(15):
                ring = half_ring(rule, post)
                if ring is not None:
                    self.assertEqual(ring[0], post)
                    for by in (0, 1, len(ring) - 1):
                        at = ring[by % len(ring)]
                        self.assertEqual(half_after(rule, post, ROUNDS * len(ring) + by), at)

    def test_known_ones(self):
        bricks, pairs, slow = Rule(["-.", ".-"]), Rule(["-."]), Rule(["-..", ".-."])
        self.assertEqual([half_after(bricks, post, 1) for post in range(5)], [2, 0, 4, 1, 6])
        self.assertEqual([half_ring(bricks, post) for post in (0, 1, 2, FAR)], [None] * 4)
        self.assertEqual([half_ring(pairs, post) for post in (0, 1, 2, 10 ** 30)],
                         [[0, 1], [1, 0], [2, 3], [10 ** 30, 10 ** 30 + 1]])
        self.assertEqual([half_ring(slow, post) for post in (0, 1, 5)], [[0, 2, 1], [1, 0, 2], [5, 4, 3]])
        self.assertEqual([half_ring(Rule([".-"]), post) for post in (0, 1, 2)], [[0], [1, 2], [2, 1]])
        self.assertEqual([half_after(Rule([".-"]), post, ROUNDS + 1) for post in (0, 1, 2)], [0, 2, 1])


class JudgeTests(unittest.TestCase):
    def check_judge(self, rule, told, wanted):
        kept = repr(told)
        self.assertIs(judge_turns(rule, told), wanted, (rule.rows, told))
        self.assertEqual(repr(told), kept)

    def test_right_ones(self):
        for texts in TEXTS:
            rule = Rule(texts)
            for order in itertools.islice(itertools.permutations(turns(rule)), 10):
                self.check_judge(rule, list(order), True)

    def test_wrong_ones(self):
        for texts in TEXTS:
            rule = Rule(texts)
            told = turns(rule)
            self.check_judge(rule, told + [(0, 0, 0)], False)
            self.check_judge(rule, told + told[:1], len(told) == 0)
            self.check_judge(rule, [], len(told) == 0)
            for at, turn in enumerate(told):
                others = told[:at] + told[at + 1:]
                self.check_judge(rule, others, False)
                for place in range(3):
                    for by in (1, -1, FAR):
                        wrong = list(turn)
                        wrong[place] += by
                        self.check_judge(rule, others + [tuple(wrong)], False)
        self.check_judge(Rule(["-.", ".-"]), [(FAR, -FAR, FAR)] * 400, False)


class RefusalTests(unittest.TestCase):
    def test_posts_below_0(self):
        for texts in (["-.", ".-"], ["."]):
            rule = Rule(texts)
            for post in (-1, -2, -HUGE, -FAR):
                check_refused(self, InvalidPost, post, half_ring, rule, post)
                check_refused(self, InvalidPost, post, half_ring, post=post, rule=rule)
                for rounds in (0, 5, -1, -FAR):
                    check_refused(self, InvalidPost, post, half_after, rule, post, rounds)

    def test_rounds_below_0(self):
        for texts in (["-.", ".-"], ["."]):
            rule = Rule(texts)
            for rounds in (-1, -2, -HUGE, -FAR):
                for post in (0, 7, FAR):
                    check_refused(self, InvalidNumber, rounds, half_after, rule, post, rounds)
                    check_refused(self, InvalidNumber, rounds, half_after, rounds=rounds, post=post, rule=rule)
        self.assertEqual(half_after(Rule(["-.", ".-"]), 7, 0), 7)


if __name__ == "__main__":
    unittest.main()
