"""Tests of rungrepeats/lanes.py: promises [2], [3], [7] and [9]."""

import itertools
import math
import unittest

from helper import (
    GREAT, HUGE, SAMPLES, SMALL, check_examples, check_interface, check_new_lists, check_refused, plain_inner,
)
from rungrepeats import lanes
from rungrepeats.errors import InvalidNumber
from rungrepeats.lanes import drift, flow_of, inner_after, judge_lanes, lanes_of, step_of
from rungrepeats.rules import Rule

EXAMPLE = """
>>> from rungrepeats.lanes import drift, flow_of, inner_after, judge_lanes, lanes_of, step_of
>>> from rungrepeats.rules import Rule
>>> bricks, slow = Rule(["-.", ".-"]), Rule(["-..", ".-."])
>>> [lanes_of(bricks), flow_of(bricks), inner_after(bricks, 1, 10 ** 30), lanes_of(slow), drift(slow, 3), step_of(slow, -1), judge_lanes(bricks, [([1], -2), ([0], 2)])]
[[([0], 2), ([1], -2)], 1, -1999999999999999999999999999999, [([0, 2, 1], 0)], (0, 1), -1, True]
"""

TEXTS = SMALL + GREAT + SAMPLES
FAR = 10 ** 62 - 1
ROUNDS = 10 ** 120


def plain_lanes(texts):
    """Walk round by round from each rest until a rest comes again, by the words of [7]."""
    width = len(texts[0])
    lanes_told = []
    told = set()
    for rest in range(width):
        if rest not in told:
            rests, at = [rest], plain_inner(texts, rest, 1)
            while at % width != rest:
                rests.append(at % width)
                at = plain_inner(texts, at, 1)
            told.update(rests)
            lanes_told.append((rests, at - rest))
    return lanes_told


class FormTests(unittest.TestCase):
    def test_examples(self):
        check_examples(self, EXAMPLE, 4)

    def test_interface(self):
        check_interface(self, lanes, {
            step_of: ["rule", "post"], lanes_of: ["rule"], flow_of: ["rule"], drift: ["rule", "post"],
            inner_after: ["rule", "post", "rounds"], judge_lanes: ["rule", "told"],
        })

    def test_arguments_by_name(self):
        bricks = Rule(["-.", ".-"])
        self.assertEqual(step_of(post=1, rule=bricks), -2)
        self.assertEqual(lanes_of(rule=bricks), [([0], 2), ([1], -2)])
        self.assertEqual(flow_of(rule=bricks), 1)
        self.assertEqual(drift(post=-4, rule=bricks), (2, 1))
        self.assertEqual(inner_after(rounds=3, post=4, rule=bricks), 10)
        self.assertIs(judge_lanes(told=[([0], 2), ([1], -2)], rule=bricks), True)
        check_refused(self, InvalidNumber, -1, inner_after, rounds=-1, post=4, rule=bricks)

    def test_new_lists_and_kinds(self):
        for texts in SAMPLES:
            rule = Rule(texts)
            check_new_lists(self, lambda: lanes_of(rule))
            for lane in lanes_of(rule):
                self.assertEqual([kind.__class__ for kind in (lane, *lane)], [tuple, list, int])
            self.assertIs(drift(rule, 5).__class__, tuple)
            self.assertEqual(rule.rows, texts)


class LaneTests(unittest.TestCase):
    def test_steps(self):
        for texts in TEXTS:
            rule = Rule(texts)
            for post in range(-2 * rule.width - 1, 2 * rule.width + 2):
                self.assertEqual(step_of(rule, post), plain_inner(texts, post, 1) - post)
            for post in (HUGE, -HUGE, FAR, -FAR):
                self.assertEqual(step_of(rule, post), plain_inner(texts, post, 1) - post)
                self.assertEqual(step_of(rule, post), step_of(rule, post % rule.width))

    def test_lanes(self):
        for texts in TEXTS:
            self.assertEqual(lanes_of(Rule(texts)), plain_lanes(texts))

    def test_each_rest_is_in_one_lane(self):
        for texts in TEXTS:
            told = lanes_of(Rule(texts))
            self.assertEqual(sorted(rest for rests, _ in told for rest in rests), list(range(len(texts[0]))))
            self.assertEqual([rests[0] for rests, _ in told], sorted(min(rests) for rests, _ in told))

    def test_shifts_add_up_to_0_and_are_multiples_of_the_width(self):
        for texts in TEXTS:
            shifts = [shift for _, shift in lanes_of(Rule(texts))]
            self.assertEqual(sum(shifts), 0)
            self.assertEqual([shift % len(texts[0]) for shift in shifts], [0] * len(shifts))

    def test_flow(self):
        for texts in TEXTS:
            told = flow_of(Rule(texts))
            self.assertIs(told.__class__, int)
            self.assertEqual(told * len(texts[0]), sum(shift for _, shift in plain_lanes(texts) if shift > 0))
        self.assertEqual([flow_of(Rule(["."])), flow_of(Rule(["-.", ".-"] * 4)), flow_of(Rule(GREAT[0]))], [0, 4, 3])

    def test_drift(self):
        for texts in TEXTS:
            rule = Rule(texts)
            for rests, shift in plain_lanes(texts):
                for rest in rests:
                    for post in (rest, rest - 3 * rule.width, rest + rule.width * 10 ** 60):
                        top, bottom = drift(rule, post)
                        self.assertGreaterEqual(bottom, 1)
                        self.assertEqual(math.gcd(top, bottom), 1)
                        self.assertEqual(top * len(rests), shift * bottom)

    def test_drift_of_lanes_with_several_rests(self):
        told = set()
        for texts in TEXTS:
            told.update(drift(Rule(texts), post) for post in range(-1, 7))
        for fraction in [(0, 1), (2, 1), (-2, 1), (-3, 2), (5, 4)]:
            self.assertIn(fraction, told)


class InnerTests(unittest.TestCase):
    def test_few_rounds(self):
        for texts in TEXTS:
            rule = Rule(texts)
            for post in list(range(-rule.width, rule.width)) + [FAR, -FAR]:
                for rounds in (0, 1, 2, 5, 13):
                    self.assertEqual(inner_after(rule, post, rounds), plain_inner(texts, post, rounds))

    def test_many_rounds_are_few_after_few(self):
        for texts in TEXTS:
            rule = Rule(texts)
            for post in (0, 1, -1, 5, FAR):
                for rounds in (ROUNDS, ROUNDS - 7, 10 ** 60 + 11):
                    before = inner_after(rule, post, rounds - 5)
                    self.assertEqual(plain_inner(texts, before, 5), inner_after(rule, post, rounds))

    def test_many_rounds_by_the_shift(self):
        for texts in TEXTS:
            rule = Rule(texts)
            for rests, shift in plain_lanes(texts):
                for rest in rests:
                    post = rest - 4 * rule.width
                    self.assertEqual(inner_after(rule, post, len(rests) * ROUNDS), post + shift * ROUNDS)

    def test_rounds_below_0(self):
        bricks = Rule(["-.", ".-"])
        for rounds in (-1, -2, -HUGE, -10 ** 61):
            for post in (0, -7, FAR):
                check_refused(self, InvalidNumber, rounds, inner_after, bricks, post, rounds)
        self.assertEqual(inner_after(bricks, -7, 0), -7)


class JudgeTests(unittest.TestCase):
    def check_judge(self, rule, told, wanted):
        kept = repr(told)
        self.assertIs(judge_lanes(rule, told), wanted, (rule.rows, told))
        self.assertEqual(repr(told), kept)

    def test_right_ones(self):
        for texts in TEXTS:
            rule = Rule(texts)
            told = plain_lanes(texts)
            for order in itertools.islice(itertools.permutations(told), 6):
                for turn in range(3):
                    turned = [(rests[turn % len(rests):] + rests[:turn % len(rests)], shift) for rests, shift in order]
                    self.check_judge(rule, turned, True)

    def test_wrong_ones(self):
        for texts in TEXTS:
            rule = Rule(texts)
            told = plain_lanes(texts)
            self.check_judge(rule, [], False)
            for at, (rests, shift) in enumerate(told):
                others = told[:at] + told[at + 1:]
                for wrong in [
                    [], [(rests, shift), (rests, shift)], [(rests, shift + rule.width)], [(rests, shift + 1)],
                    [(rests, -shift - 1)], [([], shift)], [(rests + rests, 2 * shift)], [(rests[1:], shift)],
                    [([rest + rule.width for rest in rests], shift)], [(rests + [rests[0]], shift)],
                    [(rests, shift), ([], 0)], [([rest - rule.width for rest in rests], shift)],
                    [(rests, shift), ([rule.width], 0)],
                ]:
                    self.check_judge(rule, others + wrong, False)

    def test_wrong_orders_of_rests(self):
        for texts in TEXTS:
            rule = Rule(texts)
            told = plain_lanes(texts)
            for at, (rests, shift) in enumerate(told):
                if len(rests) > 2:
                    self.check_judge(rule, told[:at] + [(rests[::-1], shift)] + told[at + 1:], False)
        slow = Rule(["-..", ".-."])
        self.check_judge(slow, [([0, 1, 2], 0)], False)
        self.check_judge(slow, [([1, 0, 2], 0)], True)

    def test_lanes_of_another_rule(self):
        self.check_judge(Rule(["-.", ".-"]), [([0], -2), ([1], 2)], False)
        self.check_judge(Rule([".-", "-."]), [([0], -2), ([1], 2)], True)
        self.check_judge(Rule(["."]), [([0], 0)], True)
        self.check_judge(Rule([".."]), [([0], 0)], False)
        self.check_judge(Rule([".."]), [([1], 0), ([0], 0)], True)
        self.check_judge(Rule(["-."]), [([1], 0), ([0], 0)], False)
        self.check_judge(Rule(["-."]), [([1, 0], 0)], True)
        self.check_judge(Rule(["-."]), [([FAR] * 400, -FAR)] * 400, False)


if __name__ == "__main__":
    unittest.main()
