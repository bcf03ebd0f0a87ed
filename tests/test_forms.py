"""Tests of rungrepeats/forms.py, the forms themselves and what they tell of one number of posts: [2], [3] and [8]."""

import math
import unittest

from helper import (
    GREAT, HUGE, LATE, SAMPLES, SMALL, check_examples, check_interface, check_new_lists, check_refused, large_texts,
    plain_forms, plain_sizes, sizes_of_lot,
)
from rungrepeats import forms
from rungrepeats.errors import InvalidSize
from rungrepeats.forms import (
    first_unlike_sizes, first_with, forms_of, home_for, judge_forms, linked_for, longest_for, number_for, single_for,
    sizes_for,
)
from rungrepeats.rings import home_of, rings_of, sizes_of
from rungrepeats.rules import Rule

EXAMPLE = """
>>> from rungrepeats.forms import first_unlike_sizes, first_with, forms_of, home_for, judge_forms, linked_for, longest_for, number_for, single_for, sizes_for
>>> from rungrepeats.rules import Rule
>>> bricks, pairs, bare = Rule(["-.", ".-"]), Rule(["-."]), Rule(["."])
>>> [forms_of(bricks), forms_of(pairs), forms_of(bare), sizes_for(pairs, 10 ** 20 + 1), home_for(bricks, 10 ** 20), number_for(pairs, 10 ** 20 + 1)]
[(1, 1, [[(1, 1, 1, 0)]]), (1, 2, [[(1, 0, 1, 0), (2, 0, 0, 1)], [(2, 0, 1, 1)]]), (1, 1, [[(1, 0, 1, 1)]]), [(1, 1), (2, 50000000000000000000)], 100000000000000000000, 50000000000000000001]
>>> [first_with(pairs, 2), first_with(bricks, 77), first_with(pairs, 3), single_for(bricks), single_for(pairs), longest_for(bare, 5)]
[2, 77, None, (1, 1, [0]), (3, 1, []), 1]
>>> [forms_of(Rule(["-..", ".-."])), forms_of(bricks + bricks), judge_forms(bricks, (1, 2, [[(1, 2, 1, 0)], [(2, 2, 1, 0)]])), linked_for(pairs, 2, 3), linked_for(bricks + bricks, 0, 1), first_unlike_sizes(bricks, pairs)]
[(1, 3, [[(1, 0, 1, 0), (3, 0, 0, 1)], [(2, 0, 1, 0), (3, 0, 0, 1)], [(3, 0, 1, 1)]]), (1, 2, [[(1, 2, 1, 0)], [(1, 1, 2, 0)]]), True, (4, 1, [0]), (2, 2, [1]), 3]
"""

TEXTS = SMALL + GREAT + SAMPLES


def told_by(told, n):
    """Give the sizes that forms tell for a number of posts."""
    first, every, lots = told
    return sizes_of_lot(lots[(n - first) % every], (n - first) // every)


class InterfaceTests(unittest.TestCase):
    def test_examples(self):
        check_examples(self, EXAMPLE, 6)

    def test_interface(self):
        check_interface(self, forms, {
            forms_of: ["rule"], sizes_for: ["rule", "n"], home_for: ["rule", "n"], longest_for: ["rule", "n"],
            number_for: ["rule", "n"], first_with: ["rule", "length"], single_for: ["rule"],
            linked_for: ["rule", "one", "other"], first_unlike_sizes: ["one", "other"], judge_forms: ["rule", "told"],
        })

    def test_arguments_by_name(self):
        pairs, bricks = Rule(["-."]), Rule(["-.", ".-"])
        told = (1, 2, [[(1, 0, 1, 0), (2, 0, 0, 1)], [(2, 0, 1, 1)]])
        self.assertEqual(forms_of(rule=pairs), told)
        self.assertEqual(sizes_for(n=5, rule=pairs), [(1, 1), (2, 2)])
        self.assertEqual([home_for(n=5, rule=pairs), number_for(n=5, rule=pairs)], [2, 3])
        self.assertEqual(longest_for(n=5, rule=bricks), 5)
        self.assertEqual(first_with(length=2, rule=pairs), 2)
        self.assertEqual(single_for(rule=pairs), (3, 1, []))
        self.assertEqual(linked_for(other=3, one=2, rule=pairs), (4, 1, [0]))
        self.assertEqual(first_unlike_sizes(other=pairs, one=bricks), 3)
        self.assertIs(judge_forms(told=told, rule=pairs), True)

    def test_new_lists_and_kinds(self):
        for texts in GREAT + SAMPLES:
            rule = Rule(texts)
            for call in (lambda: forms_of(rule), lambda: sizes_for(rule, 20), lambda: sizes_for(rule, HUGE),
                         lambda: single_for(rule), lambda: linked_for(rule, 2, 5)):
                check_new_lists(self, call)
            first, every, lots = forms_of(rule)
            self.assertEqual([first.__class__, every.__class__, lots.__class__], [int, int, list])
            for lot in lots:
                self.assertIs(lot.__class__, list)
                for form in lot:
                    self.assertEqual([entry.__class__ for entry in (form, *form)], [tuple, int, int, int, int])
            self.assertEqual(rule.rows, texts)


class FormTests(unittest.TestCase):
    def check_forms(self, texts, many, longest):
        told = forms_of(Rule(texts))
        self.assertEqual(told, plain_forms([plain_sizes(texts, n) for n in range(1, many + 1)], longest), texts)

    def test_small_rules_with_the_least_every_and_first(self):
        for texts in SMALL + SAMPLES:
            self.check_forms(texts, 200, 56)

    def test_great_rules_with_the_least_every_and_first(self):
        for texts in GREAT + LATE:
            self.check_forms(texts, 620, 100)

    def test_rules_somewhat_greater(self):
        for texts in (large_texts(8, 8, 1), large_texts(12, 5, 2), large_texts(2, 20, 3), large_texts(9, 9, 4)):
            rule = Rule(texts)
            told = forms_of(rule)
            for n in range(told[0], 150):
                self.assertEqual(told_by(told, n), plain_sizes(texts, n))

    def test_forms_are_as_they_must_be(self):
        for texts in TEXTS + LATE:
            first, every, lots = forms_of(Rule(texts))
            self.assertGreaterEqual(min(first, every), 1)
            self.assertEqual(len(lots), every)
            for lot in lots:
                self.assertIsNotNone(sizes_of_lot(lot, 0))

    def test_first_is_the_least(self):
        seen = []
        for texts in TEXTS + LATE:
            first, every, lots = forms_of(Rule(texts))
            seen.append(first)
            if first > 1:
                before = [(length - longer, longer, many - more, more) for length, longer, many, more in lots[-1]]
                told = sizes_of_lot(sorted(form for form in before if form[2:] != (0, 0)), 0)
                self.assertNotEqual(told, plain_sizes(texts, first - 1))
        self.assertEqual([forms_of(Rule(texts))[:2] for texts in LATE], [(6, 4), (2, 3), (2, 4), (2, 3), (11, 6)])
        self.assertGreaterEqual(len(set(seen)), 5)

    def test_every_is_not_always_the_greatest_that_is_let(self):
        self.assertEqual(forms_of(Rule(["-.", ".-"] * 4))[:2], (1, 4))
        self.assertEqual(forms_of(Rule(["-.-.", ".-.-"]))[:2], (1, 1))
        self.assertEqual(forms_of(Rule(["...."]))[:2], (1, 1))
        self.assertEqual(forms_of(Rule(GREAT[0]))[:2], (1, 24))

    def test_forms_tell_great_numbers_of_posts(self):
        for texts in TEXTS + LATE:
            rule = Rule(texts)
            told = forms_of(rule)
            for n in (HUGE, HUGE - 1, HUGE - 13, 10 ** 29 + 7, 10 ** 15 + 5):
                self.assertEqual(sizes_for(rule, n), told_by(told, n))


class OneNumberTests(unittest.TestCase):
    """What is told for one number of posts."""

    def check_number(self, texts, n):
        rule = Rule(texts)
        sizes = plain_sizes(texts, n)
        self.assertEqual(sizes_for(rule, n), sizes)
        self.assertEqual(home_for(rule, n), math.lcm(*[length for length, _ in sizes]))
        self.assertEqual(longest_for(rule, n), max(length for length, _ in sizes))
        self.assertEqual(number_for(rule, n), sum(many for _, many in sizes))

    def test_small_ladders(self):
        for texts in TEXTS + LATE:
            for n in list(range(1, 30)) + [47, 100]:
                self.check_number(texts, n)

    def test_greater_ladders_and_rules(self):
        for texts in GREAT:
            for n in (299, 300, 701):
                self.check_number(texts, n)
        for texts in (large_texts(12, 12, 5), large_texts(9, 9, 6), large_texts(60, 40, 7)):
            for n in (1, 7, 40, 79, 80, 81, 300):
                self.check_number(texts, n)

    def test_as_on_one_ladder(self):
        for texts in GREAT[:4] + SAMPLES:
            rule = Rule(texts)
            for n in (1, 2, 10, 33):
                self.assertEqual(sizes_for(rule, n), sizes_of(rule, n))
                self.assertEqual(home_for(rule, n), home_of(rule, n))
                self.assertEqual(number_for(rule, n), len(rings_of(rule, n)))

    def test_great_numbers(self):
        for texts in TEXTS:
            rule = Rule(texts)
            for n in (HUGE, HUGE - 1, HUGE - 25):
                sizes = sizes_for(rule, n)
                self.assertEqual(sum(length * many for length, many in sizes), n)
                self.assertEqual(sizes, sorted(dict(sizes).items()))
                self.assertGreaterEqual(min(min(entry) for entry in sizes), 1)
                self.assertEqual(home_for(rule, n), math.lcm(*[length for length, _ in sizes]))
                self.assertEqual(longest_for(rule, n), sizes[-1][0])
                self.assertEqual(number_for(rule, n), sum(many for _, many in sizes))

    def test_great_numbers_that_are_known(self):
        bricks = Rule(["-.", ".-"])
        self.assertEqual(sizes_for(bricks, HUGE), [(HUGE, 1)])
        self.assertEqual([home_for(bricks, HUGE), longest_for(bricks, HUGE), number_for(bricks, HUGE)], [HUGE, HUGE, 1])
        self.assertEqual(sizes_for(bricks + bricks, HUGE), [(HUGE // 2, 2)])
        self.assertEqual(sizes_for(bricks + bricks, HUGE - 1), [(HUGE - 1, 1)])
        self.assertEqual(sizes_for(Rule(["."]), HUGE), [(1, HUGE)])
        self.assertEqual(home_for(Rule(["-..", ".-."]), HUGE), 3)
        self.assertEqual(home_for(Rule(["-..", ".-."]), HUGE + 1), 6)

    def test_no_posts(self):
        for n in (0, -1, -HUGE):
            for call in (sizes_for, home_for, longest_for, number_for):
                check_refused(self, InvalidSize, n, call, Rule(["-.", ".-"]), n)
                check_refused(self, InvalidSize, n, call, n=n, rule=Rule(["."]))


if __name__ == "__main__":
    unittest.main()
