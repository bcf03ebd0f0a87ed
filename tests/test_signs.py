"""Tests of rungrepeats/signs.py: numbers of rungs and even exchanges, with promises [2], [3], [5] and [9]."""

import itertools
import unittest

from helper import (
    GREAT, HUGE, SAMPLES, SMALL, check_examples, check_interface, check_new_lists, check_refused, large_texts,
    plain_rings, plain_rung, rules_of_size,
)
from rungrepeats import signs
from rungrepeats.errors import InvalidPost, InvalidSize
from rungrepeats.rules import Rule
from rungrepeats.signs import even_for, is_even, rungs_at, rungs_of

EXAMPLE = """
>>> from rungrepeats.rules import Rule
>>> from rungrepeats.signs import even_for, is_even, rungs_at, rungs_of
>>> bricks, pairs = Rule(["-.", ".-"]), Rule(["-."])
>>> [rungs_of(bricks, 10 ** 30), rungs_at(bricks, 5, 4), is_even(bricks, 7), even_for(bricks), even_for(pairs), even_for(Rule(["."]))]
[999999999999999999999999999999, 0, True, (2, [1]), (4, [0, 1]), (1, [0])]
"""

WIDE = [large_texts(60, 40, 1), large_texts(59, 40, 2), large_texts(7, 40, 3), ["-."] * 40, ["-" + "." * 59]]
TEXTS = SMALL + GREAT + SAMPLES + WIDE
FAR = 10 ** 62 - 1
BRICKS = Rule(["-.", ".-"])


def plain_rungs(texts, n):
    """Count the rungs of one round, one by one, behind each post of a ladder."""
    counted = [sum(plain_rung(texts, row, post) for row in range(len(texts))) for post in range(n - 1)]
    return counted + [0]


class FormTests(unittest.TestCase):
    def test_examples(self):
        check_examples(self, EXAMPLE, 4)

    def test_interface(self):
        check_interface(self, signs, {
            rungs_of: ["rule", "n"], rungs_at: ["rule", "n", "post"], is_even: ["rule", "n"], even_for: ["rule"],
        })

    def test_arguments_by_name(self):
        self.assertEqual(rungs_of(n=5, rule=BRICKS), 4)
        self.assertEqual(rungs_at(post=3, n=5, rule=BRICKS), 1)
        self.assertIs(is_even(n=5, rule=BRICKS), True)
        self.assertEqual(even_for(rule=BRICKS), (2, [1]))

    def test_new_lists_and_kinds(self):
        for texts in TEXTS:
            rule = Rule(texts)
            check_new_lists(self, lambda: even_for(rule))
            told = even_for(rule)
            self.assertEqual([kind.__class__ for kind in (told, *told)], [tuple, int, list])
            self.assertEqual({rest.__class__ for rest in told[1]} - {int}, set())
            self.assertEqual(rule.rows, texts)


class CountTests(unittest.TestCase):
    def test_rungs_one_by_one(self):
        for texts in TEXTS:
            rule = Rule(texts)
            for n in (1, 2, 3, 4, 5, 6, 7, 13, 60, 61, 62, 130):
                counted = plain_rungs(texts, n)
                self.assertEqual(rungs_of(rule, n), sum(counted))
                for post in {0, n // 2, max(0, n - 3), max(0, n - 2), n - 1}:
                    self.assertEqual(rungs_at(rule, n, post), counted[post])
                self.assertIs(is_even(rule, n), sum(counted) % 2 == 0)

    def test_very_many_posts(self):
        for texts in TEXTS:
            rule = Rule(texts)
            width = len(texts[0])
            for n in (HUGE, HUGE - 1, HUGE - 2, 10 ** 29 + 7):
                laps, more = divmod(n, width)
                # The rungs behind the last laps of posts, and one lap's behind each of the others.
                wanted = sum(plain_rungs(texts, more + width)) + (laps - 1) * sum(text.count("-") for text in texts)
                self.assertEqual(rungs_of(rule, n), wanted)
                self.assertIs(is_even(rule, n), wanted % 2 == 0)
                for post in (0, 1, n // 3, n - 3, n - 2):
                    self.assertEqual(rungs_at(rule, n, post), sum(text[post % width] == "-" for text in texts))
                self.assertEqual(rungs_at(rule, n, n - 1), 0)

    def test_known_ones(self):
        self.assertEqual([rungs_of(BRICKS, n) for n in (1, 2, 3, HUGE)], [0, 1, 2, HUGE - 1])
        self.assertEqual([rungs_of(Rule([".-"]), n) for n in (1, 2, 3, 4, 5)], [0, 0, 1, 1, 2])
        self.assertEqual([rungs_at(Rule([".-"]), 4, post) for post in range(4)], [0, 1, 0, 0])
        self.assertEqual(rungs_at(Rule(["-."] * 40), HUGE, 10 ** 20), 40)
        self.assertEqual([is_even(BRICKS, n) for n in (1, 2, 3, HUGE)], [True, False, True, False])

    def test_even_exchanges_have_an_even_number_of_rings_of_even_length(self):
        for texts in SMALL + SAMPLES:
            rule = Rule(texts)
            for n in (1, 2, 3, 8, 9, 22):
                lengths = [len(ring) for ring in plain_rings(texts, n)]
                self.assertIs(is_even(rule, n), sum(length % 2 == 0 for length in lengths) % 2 == 0)
                self.assertIs(is_even(rule, n), (n - len(lengths)) % 2 == 0)


class EvenTests(unittest.TestCase):
    def check_even(self, texts):
        every, rests = even_for(Rule(texts))
        many = 4 * len(texts[0]) + 2
        truths = [sum(plain_rungs(texts, n)) % 2 == 0 for n in range(1, many + 1)]
        self.assertEqual([n % every in rests for n in range(1, many + 1)], truths, texts)
        self.assertEqual(rests, sorted(set(rests) & set(range(every))))
        for less in range(1, every):
            self.assertTrue(any(truths[at] != truths[at + less] for at in range(many - less)), (texts, less))

    def test_the_least_numbers(self):
        for texts in TEXTS + rules_of_size(6, 1) + rules_of_size(5, 2):
            self.check_even(texts)

    def test_each_number_of_posts(self):
        for texts in itertools.chain(SMALL, SAMPLES, WIDE):
            rule = Rule(texts)
            every, rests = even_for(rule)
            for n in (1, 2, 3, every, every + 1, 100, HUGE, HUGE - 1):
                self.assertIs(is_even(rule, n), n % every in rests)

    def test_known_ones(self):
        self.assertEqual(even_for(Rule([".-"])), (4, [1, 2]))
        self.assertEqual(even_for(Rule(["-.", "-."])), (1, [0]))
        self.assertEqual(even_for(Rule(["-..", ".-.", "..-"])), (2, [1]))
        self.assertEqual(even_for(Rule(["-..", ".-."])), (3, [0, 1]))
        self.assertEqual(even_for(Rule(["-.-."])), (4, [0, 1]))
        self.assertEqual(even_for(Rule(["-" + "." * 59])), (120, [0, 1] + list(range(62, 120))))


class RefusalTests(unittest.TestCase):
    def test_numbers_of_posts(self):
        for texts in (["."], ["-.", ".-"]):
            rule = Rule(texts)
            for n in (0, -1, -FAR):
                check_refused(self, InvalidSize, n, rungs_of, rule, n)
                check_refused(self, InvalidSize, n, is_even, rule=rule, n=n)
                for post in (0, -1, FAR):
                    check_refused(self, InvalidSize, n, rungs_at, rule, n, post)

    def test_posts(self):
        for texts in (["."], ["-.", ".-"]):
            rule = Rule(texts)
            for n in (1, 2, 9, HUGE):
                for post in (-1, n, n + 1, FAR, -FAR):
                    check_refused(self, InvalidPost, post, rungs_at, rule, n, post)
                    check_refused(self, InvalidPost, post, rungs_at, post=post, n=n, rule=rule)


if __name__ == "__main__":
    unittest.main()
