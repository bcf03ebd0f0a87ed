"""Tests of the guarantees of promise [9], of what the package tells and of plain walks."""

import math
import unittest

from helper import GREAT, HUGE, LATE, SAMPLES, SMALL, plain_rings, plain_round, plain_rung, rules_of_size
from rungrepeats.alike import first_unlike, same_round
from rungrepeats.far import ring_length
from rungrepeats.forms import forms_of, number_for
from rungrepeats.lanes import flow_of, lanes_of
from rungrepeats.rules import Rule
from rungrepeats.signs import is_even

TEXTS = SMALL + GREAT + LATE + SAMPLES


class GuaranteeTests(unittest.TestCase):
    def test_first_and_every_have_bounds(self):
        for texts in TEXTS:
            rule = Rule(texts)
            first, every, _ = forms_of(rule)
            shifts = [abs(shift) // rule.width for _, shift in lanes_of(rule) if shift]
            self.assertLessEqual(first, 2 * rule.height * (rule.width + 1))
            self.assertEqual(rule.width * math.lcm(*shifts) % every, 0)

    def test_rings_that_come_to_both_ends(self):
        for texts in TEXTS:
            rule = Rule(texts)
            first, every, lots = forms_of(rule)
            flow, height = flow_of(rule), rule.height
            bound = 2 * height * (rule.width + 1)
            for n in range(bound, bound + 7):
                rings = plain_rings(texts, n)
                lengths = [len(ring) for ring in rings if min(ring) < height and max(ring) >= n - height]
                self.assertLessEqual(len(lengths), flow)
                self.assertEqual(len(lengths) > 0, flow > 0)
                k = (n - first) // every
                grown = [form for form in lots[(n - first) % every] if form[1] > 0]
                told = [length + longer * k for length, longer, many, _ in grown for _ in range(many)]
                self.assertEqual(sorted(told), sorted(lengths))

    def test_shifts(self):
        for texts in TEXTS:
            shifts = [shift for _, shift in lanes_of(Rule(texts))]
            self.assertEqual(sum(shifts), 0)
            self.assertEqual({shift % len(texts[0]) for shift in shifts}, {0})

    def test_rings_far_from_the_ends_do_not_grow(self):
        for texts in TEXTS:
            rule = Rule(texts)
            still = {rest: len(rests) for rests, shift in lanes_of(rule) if shift == 0 for rest in rests}
            for n in (10 ** 4, 10 ** 4 + 1, HUGE, HUGE + 1):
                for post in range(n // 2, n // 2 + rule.width):
                    length = ring_length(rule, n, post)
                    if post % rule.width in still:
                        self.assertEqual(length, still[post % rule.width])
                    else:
                        self.assertGreater(length, n // 100)

    def test_more_by_the_lanes(self):
        for texts in TEXTS:
            rule = Rule(texts)
            _, every, lots = forms_of(rule)
            still = [len(rests) for rests, shift in lanes_of(rule) if shift == 0]
            for lot in lots:
                more = {form[0]: form[3] for form in lot if form[1] == 0}
                for length in range(1, 60):
                    self.assertEqual(more.get(length, 0) * rule.width, every * still.count(length))

    def test_the_inverse_and_the_first_row_at_the_end(self):
        for texts in TEXTS:
            rule = Rule(texts)
            self.assertEqual(forms_of(rule.inverse()), forms_of(rule))
            self.assertEqual(forms_of(Rule(texts[1:] + texts[:1])), forms_of(rule))

    def test_even_exchanges(self):
        for texts in TEXTS:
            rule = Rule(texts)
            for n in (1, 2, 5, 12, 31):
                rungs = sum(plain_rung(texts, row, post) for row in range(len(texts)) for post in range(n - 1))
                self.assertEqual((n - number_for(rule, n)) % 2, rungs % 2)
            for n in (1, 2, 3, 40, HUGE, HUGE - 1):
                self.assertIs(is_even(rule, n), (n - number_for(rule, n)) % 2 == 0)

    def test_two_rules_that_do_the_same(self):
        rules = rules_of_size(2, 2) + rules_of_size(3, 1) + rules_of_size(3, 2)
        for one in rules:
            for other in rules:
                bound = math.lcm(len(one[0]), len(other[0])) + 2 * max(len(one), len(other))
                same = all(plain_round(one, n) == plain_round(other, n) for n in range(1, bound + 1))
                self.assertIs(same_round(Rule(one), Rule(other)), same)
                self.assertIs(first_unlike(Rule(one), Rule(other)) is None, same)
                if same:
                    self.assertEqual(plain_round(one, 60), plain_round(other, 60))
                    self.assertEqual(forms_of(Rule(one)), forms_of(Rule(other)))


if __name__ == "__main__":
    unittest.main()
