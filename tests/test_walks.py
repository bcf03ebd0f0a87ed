"""Tests of rungrepeats/walks.py: promises [2], [3] and [5]."""

import inspect
import unittest

from helper import (
    HUGE, SAMPLES, check_examples, check_refused, large_texts, plain_ladder, plain_meets, plain_partners, plain_rung,
)
from rungrepeats import walks
from rungrepeats.errors import InvalidNumber, InvalidPost, InvalidSize
from rungrepeats.rules import Rule
from rungrepeats.walks import meets, partners, round_of, walk_of

EXAMPLE = """
>>> from rungrepeats.rules import Rule
>>> from rungrepeats.walks import meets, partners, round_of, walk_of
>>> bricks = Rule(["-.", ".-"])
>>> [walk_of(bricks, 4, 0, 4), walk_of(bricks, 10 ** 30, 7, 3), round_of(bricks, 4), partners(bricks, 4, 0, 3), meets(bricks, 4, 0, 1, 8), meets(bricks, 3, 1, 1, 2)]
[[0, 1, 2, 3, 3], [7, 6, 5, 4], [2, 0, 3, 1], [1, 2, 3], 2, 1]
"""


def made_rules():
    """Give rules that were made by the methods of others, beside the samples themselves."""
    one, other, third = Rule(["-..", ".-.", "..-"]), Rule(["-.", ".-"]), Rule(["....-", "-....", ".-.-."])
    made = [one.inverse(), third.shifted(-7), third.mirrored(8), one.then(other), other + third + one.inverse(),
            (one + other).shifted(10 ** 60).mirrored(10 ** 20)]
    return [Rule(texts) for texts in SAMPLES] + made


class FormTests(unittest.TestCase):
    def test_examples(self):
        check_examples(self, EXAMPLE, 4)

    def test_interface(self):
        told = {
            walk_of: ["rule", "n", "post", "rows"], round_of: ["rule", "n"],
            partners: ["rule", "n", "post", "rows"], meets: ["rule", "n", "one", "other", "rows"],
        }
        for call, parameters in told.items():
            self.assertEqual(call.__module__, walks.__name__)
            self.assertEqual(list(inspect.signature(call).parameters), parameters)


class CountTests(unittest.TestCase):
    """Against a plain count by rows, on ladders of 1, 2 and more posts, down more rows than the rules are high."""

    def check_ladder(self, rule, n, rows):
        texts = rule.rows
        ways, _ = plain_ladder(texts, n, rows)
        for post in range(n):
            self.assertEqual(walk_of(rule, n, post, rows), ways[post])
            self.assertEqual(partners(rule, n, post, rows), plain_partners(texts, n, post, rows))
            for other in range(n):
                self.assertEqual(meets(rule, n, post, other, rows), plain_meets(texts, n, post, other, rows))
        self.assertEqual(rule.rows, texts)

    def test_small_ladders(self):
        for rule in made_rules():
            for n in (1, 2, 3, 4, 7):
                for rows in (0, 1, 2, rule.height, 2 * rule.height + 1):
                    self.check_ladder(rule, n, rows)

    def test_rounds(self):
        for rule in made_rules():
            for n in range(1, 20):
                ways, _ = plain_ladder(rule.rows, n, rule.height)
                self.assertEqual(round_of(rule, n), [way[-1] for way in ways])

    def test_a_round_comes_to_every_post_from_one(self):
        for rule in made_rules():
            for n in (1, 2, 5, 17, 300):
                self.assertEqual(sorted(round_of(rule, n)), list(range(n)))

    def test_large_rules(self):
        for seed in range(3):
            rule = Rule(large_texts(60, 40, seed))
            ways, _ = plain_ladder(rule.rows, 300, 300)
            for post in (0, 1, 59, 60, 150, 298, 299):
                self.assertEqual(walk_of(rule, 300, post, 300), ways[post])
            rounds, _ = plain_ladder(rule.rows, 300, 40)
            self.assertEqual(round_of(rule, 300), [way[-1] for way in rounds])

    def test_partners_on_60_posts_in_300_rows(self):
        for texts in (large_texts(60, 40, 7), large_texts(7, 11, 8), ["-.", ".-"]):
            rule = Rule(texts)
            for post in (0, 29, 59):
                self.assertEqual(partners(rule, 60, post, 300), plain_partners(texts, 60, post, 300))

    def test_meets_on_60_posts_in_300_rows(self):
        for texts in (large_texts(60, 40, 7), large_texts(7, 11, 8), ["-.", ".-"]):
            rule = Rule(texts)
            for one, other in [(0, 1), (0, 59), (59, 58), (30, 30), (0, 0), (59, 59), (17, 20)]:
                self.assertEqual(meets(rule, 60, one, other, 300), plain_meets(texts, 60, one, other, 300))


class EdgeTests(unittest.TestCase):
    def test_one_post_stays(self):
        for rule in made_rules():
            self.assertEqual(walk_of(rule, 1, 0, 5), [0] * 6)
            self.assertEqual(round_of(rule, 1), [0])
            self.assertEqual(partners(rule, 1, 0, 5), [])
            self.assertEqual(meets(rule, 1, 0, 0, 5), 0)

    def test_no_rows(self):
        bricks = Rule(["-.", ".-"])
        for n, post in [(1, 0), (2, 1), (9, 4), (HUGE, HUGE - 1)]:
            self.assertEqual(walk_of(bricks, n, post, 0), [post])
            self.assertEqual(meets(bricks, n, post, post, 0), 0)
        self.assertEqual(partners(bricks, 9, 4, 0), [])
        self.assertEqual(meets(bricks, 2, 0, 1, 0), 0)

    def test_posts_at_both_ends_have_no_rung_outside(self):
        rule = Rule(["..-", "-.."])
        self.assertEqual(walk_of(rule, 3, 2, 2), [2, 2, 2])
        self.assertEqual(walk_of(rule, 4, 2, 4), [2, 3, 3, 2, 2])
        self.assertEqual(walk_of(rule, 3, 0, 4), [0, 0, 1, 1, 0])
        self.assertEqual(walk_of(Rule([".-"]), 2, 1, 1), [1, 1])
        self.assertEqual(walk_of(Rule([".-"]), 2, 0, 1), [0, 0])

    def test_two_posts(self):
        pairs = Rule(["-."])
        self.assertEqual(walk_of(pairs, 2, 0, 3), [0, 1, 0, 1])
        self.assertEqual(round_of(pairs, 2), [1, 0])
        self.assertEqual([partners(pairs, 2, 0, 3), partners(pairs, 2, 1, 1)], [[1], [0]])
        self.assertEqual([meets(pairs, 2, 0, 1, 3), meets(pairs, 2, 0, 0, 3), meets(pairs, 2, 1, 0, 2)], [3, 3, 2])

    def test_partners_are_told_once_and_ascending(self):
        self.assertEqual(partners(Rule(["-."]), 5, 3, 300), [2])
        self.assertEqual(partners(Rule(["-.", ".-"]), 6, 3, 300), [0, 1, 2, 4, 5])

    def test_two_posts_that_are_one_count_the_rungs_crossed(self):
        slow = Rule(["-..", ".-.", "..."])
        self.assertEqual([meets(slow, 5, post, post, 3) for post in range(5)], [2, 1, 1, 1, 1])

    def test_meets_does_not_count_other_rungs_of_the_same_row(self):
        pairs = Rule(["-."])
        self.assertEqual([meets(pairs, 8, 0, other, 4) for other in range(8)], [4, 4, 0, 0, 0, 0, 0, 0])
        bare = Rule(["."])
        self.assertEqual([meets(bare, 3, 0, other, 4) for other in range(3)], [0, 0, 0])


class HugeTests(unittest.TestCase):
    def plain_walk(self, texts, n, post, rows):
        way = [post]
        for row in range(rows):
            if way[-1] < n - 1 and plain_rung(texts, row, way[-1]):
                way.append(way[-1] + 1)
            elif way[-1] > 0 and plain_rung(texts, row, way[-1] - 1):
                way.append(way[-1] - 1)
            else:
                way.append(way[-1])
        return way

    def test_walks_on_10_to_30_posts(self):
        for texts in SAMPLES + [large_texts(60, 40, 9), large_texts(59, 39, 10)]:
            rule = Rule(texts)
            for post in (0, 1, 2, 10 ** 20, HUGE // 2 + 1, HUGE - 3, HUGE - 2, HUGE - 1):
                self.assertEqual(walk_of(rule, HUGE, post, 300), self.plain_walk(texts, HUGE, post, 300))

    def test_meets_on_10_to_30_posts(self):
        for texts in SAMPLES + [large_texts(60, 40, 9)]:
            rule = Rule(texts)
            for one in (0, 10 ** 20, HUGE - 40):
                first = self.plain_walk(texts, HUGE, one, 300)
                for other in range(one, one + 40):
                    second = self.plain_walk(texts, HUGE, other, 300)
                    wanted = 0
                    for row in range(300):
                        rung = {first[row], first[row + 1]}
                        wanted += len(rung) == 2 and rung == {second[row], second[row + 1]}
                    self.assertEqual(meets(rule, HUGE, one, other, 300), wanted)
                    self.assertEqual(meets(rule, HUGE, other, one, 300), wanted)
        self.assertEqual(meets(Rule(["-."]), HUGE, 0, HUGE - 1, 300), 0)

    def test_the_last_post_depends_on_the_number_of_posts(self):
        bricks = Rule(["-.", ".-"])
        self.assertEqual(walk_of(bricks, HUGE, HUGE - 1, 2), [HUGE - 1, HUGE - 2, HUGE - 3])
        self.assertEqual(walk_of(bricks, HUGE - 1, HUGE - 2, 2), [HUGE - 2, HUGE - 2, HUGE - 3])


class RefusalTests(unittest.TestCase):
    def setUp(self):
        self.rule = Rule(["-.", ".-"])

    def test_no_posts(self):
        for n in (0, -1, -HUGE):
            for post, rows in [(0, 3), (-1, 3), (0, -1), (-1, -1), (5, 0)]:
                check_refused(self, InvalidSize, n, walk_of, self.rule, n, post, rows)
                check_refused(self, InvalidSize, n, partners, self.rule, n, post, rows)
                check_refused(self, InvalidSize, n, meets, self.rule, n, post, 0, rows)
                check_refused(self, InvalidSize, n, meets, self.rule, n, 0, post, rows)
            check_refused(self, InvalidSize, n, round_of, self.rule, n)
            check_refused(self, InvalidSize, n, round_of, rule=self.rule, n=n)

    def test_posts_off_the_ladder(self):
        for n, post in [(1, 1), (1, -1), (4, 4), (4, -1), (4, 5), (4, -4), (4, 10 ** 61), (4, -10 ** 61)]:
            for rows in (0, 3, -1, -HUGE):
                check_refused(self, InvalidPost, post, walk_of, self.rule, n, post, rows)
                check_refused(self, InvalidPost, post, partners, self.rule, n, post, rows)
                check_refused(self, InvalidPost, post, meets, self.rule, n, post, 0, rows)
                check_refused(self, InvalidPost, post, meets, self.rule, n, 0, post, rows)
                check_refused(self, InvalidPost, post, meets, self.rule, n, post, -7, rows)
                check_refused(self, InvalidPost, post, meets, self.rule, n, post, 99, rows)
        for post in (HUGE, -1):
            check_refused(self, InvalidPost, post, walk_of, self.rule, HUGE, post, 3)
            check_refused(self, InvalidPost, post, meets, self.rule, HUGE, 0, post, 3)

    def test_rows_below_0(self):
        for n, post in [(1, 0), (4, 0), (4, 3)]:
            for rows in (-1, -2, -10 ** 61):
                check_refused(self, InvalidNumber, rows, walk_of, self.rule, n, post, rows)
                check_refused(self, InvalidNumber, rows, partners, self.rule, n, post, rows)
                check_refused(self, InvalidNumber, rows, meets, self.rule, n, post, 0, rows)
                check_refused(self, InvalidNumber, rows, meets, self.rule, n, post, post, rows)

    def test_refusals_by_name(self):
        check_refused(self, InvalidSize, 0, walk_of, rows=-1, post=-1, n=0, rule=self.rule)
        check_refused(self, InvalidPost, 4, partners, rows=-1, post=4, n=4, rule=self.rule)
        check_refused(self, InvalidPost, -2, meets, rows=-1, other=-1, one=-2, n=4, rule=self.rule)
        check_refused(self, InvalidPost, -1, meets, rows=-1, other=-1, one=0, n=4, rule=self.rule)
        check_refused(self, InvalidNumber, -1, meets, rows=-1, other=0, one=0, n=4, rule=self.rule)

    def test_good_questions_are_answered_behind_refused_ones(self):
        check_refused(self, InvalidPost, 4, walk_of, self.rule, 4, 4, 4)
        self.assertEqual(walk_of(self.rule, 4, 0, 4), [0, 1, 2, 3, 3])
        check_refused(self, InvalidSize, 0, round_of, self.rule, 0)
        self.assertEqual(round_of(self.rule, 4), [2, 0, 3, 1])
        check_refused(self, InvalidNumber, -1, partners, self.rule, 4, 0, -1)
        self.assertEqual(partners(self.rule, 4, 0, 3), [1, 2, 3])
        check_refused(self, InvalidPost, 9, meets, self.rule, 4, 0, 9, 8)
        self.assertEqual(meets(self.rule, 4, 0, 1, 8), 2)
        self.assertEqual(self.rule.rows, ["-.", ".-"])


class CallTests(unittest.TestCase):
    def test_returned_lists_are_new(self):
        rule = Rule(["-.", ".-"])
        calls = [lambda: walk_of(rule, 4, 0, 4), lambda: round_of(rule, 4), lambda: partners(rule, 4, 0, 3)]
        for call in calls:
            first, told = call(), call()
            self.assertIsNot(first, told)
            told.append(99)
            told[0] = -5
            self.assertEqual(call(), first)
            told.clear()
            self.assertEqual(call(), first)

    def test_kinds_of_what_is_returned(self):
        rule = Rule(["-.", ".-"])
        for told in (walk_of(rule, 4, 0, 4), round_of(rule, 4), partners(rule, 4, 0, 3)):
            self.assertIs(told.__class__, list)
            self.assertTrue(all(post.__class__ is int for post in told))
        self.assertIs(meets(rule, 4, 0, 1, 8).__class__, int)

    def test_arguments_by_name(self):
        rule = Rule(["-.", ".-"])
        self.assertEqual(walk_of(rows=4, post=0, n=4, rule=rule), [0, 1, 2, 3, 3])
        self.assertEqual(round_of(n=4, rule=rule), [2, 0, 3, 1])
        self.assertEqual(partners(rows=3, post=0, n=4, rule=rule), [1, 2, 3])
        self.assertEqual(meets(rows=8, other=1, one=0, n=4, rule=rule), 2)
        self.assertEqual(meets(rule, 3, 1, other=1, rows=2), 1)


if __name__ == "__main__":
    unittest.main()
