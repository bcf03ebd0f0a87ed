"""Tests of rungrepeats/rings.py: promises [2], [3], [6] and [9]."""

import math
import unittest

from helper import (
    GREAT, HUGE, SAMPLES, SMALL, check_examples, check_interface, check_new_lists, check_refused, plain_ladder,
    plain_rings, plain_sizes,
)
from rungrepeats import rings
from rungrepeats.errors import InvalidPost, InvalidSize
from rungrepeats.rings import home_of, judge_rings, ring_of, rings_of, sizes_of
from rungrepeats.rules import Rule

EXAMPLE = """
>>> from rungrepeats.rings import home_of, judge_rings, ring_of, rings_of, sizes_of
>>> from rungrepeats.rules import Rule
>>> bricks, slow = Rule(["-.", ".-"]), Rule(["-..", ".-."])
>>> [rings_of(bricks, 4), ring_of(bricks, 4, 3), sizes_of(bricks, 7), rings_of(slow, 5), sizes_of(slow, 5), home_of(slow, 5), judge_rings(bricks, 4, [[3, 1, 0, 2]])]
[[[0, 2, 3, 1]], [3, 1, 0, 2], [(7, 1)], [[0, 2, 1], [3, 4]], [(2, 1), (3, 1)], 6, True]
"""

TEXTS = SMALL + GREAT + SAMPLES
SIZES = [1, 2, 3, 4, 5, 8, 13, 20]


class FormTests(unittest.TestCase):
    def test_examples(self):
        check_examples(self, EXAMPLE, 4)

    def test_interface(self):
        check_interface(self, rings, {
            rings_of: ["rule", "n"], ring_of: ["rule", "n", "post"], sizes_of: ["rule", "n"], home_of: ["rule", "n"],
            judge_rings: ["rule", "n", "told"],
        })

    def test_arguments_by_name(self):
        slow = Rule(["-..", ".-."])
        self.assertEqual(rings_of(n=5, rule=slow), [[0, 2, 1], [3, 4]])
        self.assertEqual(ring_of(post=2, n=5, rule=slow), [2, 1, 0])
        self.assertEqual(sizes_of(n=5, rule=slow), [(2, 1), (3, 1)])
        self.assertEqual(home_of(n=5, rule=slow), 6)
        self.assertIs(judge_rings(told=[[4, 3], [1, 0, 2]], n=5, rule=slow), True)

    def test_new_lists(self):
        for texts in SAMPLES:
            rule = Rule(texts)
            for n in (1, 2, 9):
                check_new_lists(self, lambda: rings_of(rule, n))
                check_new_lists(self, lambda: ring_of(rule, n, n - 1))
                check_new_lists(self, lambda: sizes_of(rule, n))
            self.assertEqual(rule.rows, texts)


class RingTests(unittest.TestCase):
    def test_rings_round_by_round(self):
        for texts in TEXTS:
            rule = Rule(texts)
            for n in SIZES:
                told = plain_rings(texts, n)
                self.assertEqual(rings_of(rule, n), told)
                self.assertEqual(sizes_of(rule, n), plain_sizes(texts, n))
                for ring in told:
                    for at, post in enumerate(ring):
                        self.assertEqual(ring_of(rule, n, post), ring[at:] + ring[:at])

    def test_rings_row_by_row(self):
        for texts in SMALL[::7] + GREAT[::3] + SAMPLES:
            rule = Rule(texts)
            for n in (1, 2, 3, 7, 10):
                ways, _ = plain_ladder(texts, n, (n + 1) * len(texts))
                for post in range(n):
                    way = ways[post][::len(texts)]
                    ring = way[:way.index(post, 1)]
                    self.assertEqual(len(set(ring)), len(ring))
                    self.assertEqual(ring_of(rule, n, post), ring)

    def test_home_is_the_first_round_with_all_at_home(self):
        for texts in SMALL[::5] + SAMPLES:
            rule = Rule(texts)
            for n in (1, 2, 3, 6, 9):
                told = home_of(rule, n)
                self.assertGreaterEqual(told, 1)
                if told <= 60:
                    ways, _ = plain_ladder(texts, n, told * len(texts))
                    home = [rounds for rounds in range(1, told + 1)
                            if all(way[rounds * len(texts)] == way[0] for way in ways)]
                    self.assertEqual(home, [told])

    def test_home_by_the_lengths(self):
        for texts in TEXTS:
            rule = Rule(texts)
            for n in SIZES:
                self.assertEqual(home_of(rule, n), math.lcm(*[len(ring) for ring in plain_rings(texts, n)]))

    def test_300_posts(self):
        for texts in GREAT + SAMPLES:
            rule = Rule(texts)
            for n in (299, 300):
                told = plain_rings(texts, n)
                self.assertEqual(rings_of(rule, n), told)
                self.assertEqual(ring_of(rule, n, told[-1][-1]), told[-1][-1:] + told[-1][:-1])
                self.assertEqual(sizes_of(rule, n), plain_sizes(texts, n))
                self.assertEqual(home_of(rule, n), math.lcm(*[len(ring) for ring in told]))
                self.assertIs(judge_rings(rule, n, told[::-1]), True)

    def test_one_post(self):
        for texts in TEXTS:
            rule = Rule(texts)
            self.assertEqual([rings_of(rule, 1), ring_of(rule, 1, 0), sizes_of(rule, 1), home_of(rule, 1)],
                             [[[0]], [0], [(1, 1)], 1])


class JudgeTests(unittest.TestCase):
    def check_judge(self, rule, n, told, wanted):
        kept = repr(told)
        self.assertIs(judge_rings(rule, n, told), wanted, (rule.rows, n, told))
        self.assertEqual(repr(told), kept)

    def test_right_ones(self):
        for texts in TEXTS:
            rule = Rule(texts)
            for n in (1, 2, 5, 12):
                told = plain_rings(texts, n)
                for turn in range(4):
                    turned = [ring[turn % len(ring):] + ring[:turn % len(ring)] for ring in told]
                    self.check_judge(rule, n, turned, True)
                    self.check_judge(rule, n, turned[::-1], True)
                    self.check_judge(rule, n, turned[1:] + turned[:1], True)

    def test_wrong_ones(self):
        for texts in TEXTS:
            rule = Rule(texts)
            for n in (1, 2, 6):
                told = plain_rings(texts, n)
                self.check_judge(rule, n, [], False)
                for at, ring in enumerate(told):
                    others = told[:at] + told[at + 1:]
                    for wrong in [
                        [], [ring, ring], [ring + ring], [ring + ring[:1]], [ring[1:]], [ring, []], [ring, [n]],
                        [ring, [-1]], [[post + n for post in ring]], [ring[:-1] + [10 ** 61]], [[]],
                    ]:
                        self.check_judge(rule, n, others + wrong, False)

    def test_rings_of_other_ladders_and_orders(self):
        slow = Rule(["-..", ".-."])
        self.check_judge(slow, 5, [[0, 1, 2], [3, 4]], False)
        self.check_judge(slow, 5, [[0, 2], [1], [3, 4]], False)
        self.check_judge(slow, 5, [[0, 2, 1, 3, 4]], False)
        self.check_judge(slow, 5, [[2, 1, 0], [4, 3]], True)
        self.check_judge(slow, 6, [[2, 1, 0], [4, 3]], False)
        self.check_judge(Rule(["-.", ".-"]), 4, [[1, 3, 2, 0]], False)
        self.check_judge(slow, 5, [[-10 ** 61] * 400] * 400, False)


class RefusalTests(unittest.TestCase):
    def test_no_posts(self):
        rule = Rule(["-.", ".-"])
        for n in (0, -1, -HUGE):
            for call in (rings_of, sizes_of, home_of):
                check_refused(self, InvalidSize, n, call, rule, n)
                check_refused(self, InvalidSize, n, call, n=n, rule=rule)
            for post in (0, -1, 5):
                check_refused(self, InvalidSize, n, ring_of, rule, n, post)
            for told in ([], [[0]], [[]], [[-1]]):
                check_refused(self, InvalidSize, n, judge_rings, rule, n, told)

    def test_posts_off_the_ladder(self):
        rule = Rule(["-.", ".-"])
        for n, post in [(1, 1), (1, -1), (4, 4), (4, 5), (4, -1), (4, -4), (300, 300), (4, 10 ** 61), (4, -10 ** 61)]:
            check_refused(self, InvalidPost, post, ring_of, rule, n, post)
            check_refused(self, InvalidPost, post, ring_of, post=post, n=n, rule=rule)
        self.assertEqual(ring_of(rule, 4, 3), [3, 1, 0, 2])


if __name__ == "__main__":
    unittest.main()
