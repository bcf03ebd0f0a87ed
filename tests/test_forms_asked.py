"""Tests of rungrepeats/forms.py, what is found and judged by forms: promises [2], [3], [6] and [8]."""

import unittest

from helper import (
    GREAT, HUGE, LATE, SAMPLES, SMALL, check_refused, plain_forms, plain_rests, plain_rings, plain_sizes, sizes_of_lot,
)
from rungrepeats.errors import InvalidNumber, InvalidPost
from rungrepeats.forms import (
    first_unlike_sizes, first_with, forms_of, judge_forms, linked_for, number_for, single_for, sizes_for,
)
from rungrepeats.rules import Rule

BRICKS, PAIRS, BARE, SLOW = Rule(["-.", ".-"]), Rule(["-."]), Rule(["."]), Rule(["-..", ".-."])
TEXTS = SMALL[::3] + GREAT + SAMPLES
FAR = 10 ** 61


class FirstWithTests(unittest.TestCase):
    def test_small_lengths(self):
        for texts in TEXTS + LATE:
            rule = Rule(texts)
            found = {}
            for n in range(1, 90):
                for length, _ in plain_sizes(texts, n):
                    found.setdefault(length, n)
            for length in list(range(1, 9)) + list(range(9, 50, 6)):
                told = first_with(rule, length)
                if length in found:
                    self.assertEqual(told, found[length], (texts, length))
                elif told is not None:
                    self.assertGreaterEqual(told, 90)
                    self.assertIn(length, dict(sizes_for(rule, told)))

    def test_great_lengths(self):
        for texts in TEXTS:
            rule = Rule(texts)
            first, every, lots = forms_of(rule)
            grows = any(form[1] for lot in lots for form in lot)
            for length in (10 ** 30 - 1, 10 ** 29 + 6, 10 ** 12):
                told = first_with(rule, length)
                if told is None:
                    continue
                self.assertTrue(grows)
                self.assertIn(length, dict(sizes_for(rule, told)))
                for by in range(1, 2 * every + 2):
                    self.assertNotIn(length, dict(sizes_for(rule, told - by)))
            if not grows:
                self.assertIsNone(first_with(rule, 10 ** 29))

    def test_known_ones(self):
        self.assertEqual([first_with(BRICKS, length) for length in (1, 2, 77, 10 ** 30 - 1)], [1, 2, 77, 10 ** 30 - 1])
        told = [first_with(BRICKS + BRICKS, length) for length in (1, 2, 3, 4, 10 ** 29)]
        self.assertEqual(told, [1, 4, 3, 8, 2 * 10 ** 29])
        self.assertEqual([first_with(PAIRS, length) for length in (1, 2, 3, 10 ** 29)], [1, 2, None, None])
        self.assertEqual([first_with(BARE, length) for length in (1, 2)], [1, None])
        self.assertEqual([first_with(SLOW, length) for length in (1, 2, 3, 4)], [1, 2, 3, None])

    def test_lengths_below_1(self):
        for length in (0, -1, -HUGE, -FAR):
            check_refused(self, InvalidNumber, length, first_with, BRICKS, length)
            check_refused(self, InvalidNumber, length, first_with, length=length, rule=BARE)


class SingleTests(unittest.TestCase):
    def test_against_walks(self):
        for texts in TEXTS + LATE:
            truths = [len(plain_rings(texts, n)) == 1 for n in range(1, 260)]
            self.assertEqual(single_for(Rule(texts)), plain_rests(truths, 1), texts)

    def test_great_numbers(self):
        for texts in TEXTS:
            rule = Rule(texts)
            first, every, rests = single_for(rule)
            for n in range(HUGE - 2 * every, HUGE):
                self.assertEqual(number_for(rule, n) == 1, (n - first) % every in rests)

    def test_known_ones(self):
        self.assertEqual(single_for(BARE), (2, 1, []))
        self.assertEqual(single_for(BRICKS), (1, 1, [0]))
        self.assertEqual(single_for(BRICKS + BRICKS), (1, 2, [0]))
        self.assertEqual(single_for(PAIRS), (3, 1, []))


class LinkedTests(unittest.TestCase):
    def check_linked(self, texts, one, other):
        least = max(one, other) + 1
        truths = []
        for n in range(least, least + 230):
            truths.append(any(one in ring and other in ring for ring in plain_rings(texts, n)))
        told = linked_for(Rule(texts), one, other)
        self.assertEqual(told, plain_rests(truths, least), (texts, one, other))
        self.assertEqual(linked_for(Rule(texts), other, one), told)

    def test_against_walks(self):
        for texts in SMALL[::7] + GREAT[::2] + SAMPLES[::2]:
            for one, other in [(0, 1), (0, 2), (3, 8), (5, 4), (17, 2)]:
                self.check_linked(texts, one, other)

    def test_posts_with_two_digits(self):
        for texts in [["-.", ".-"], ["-..", ".-."], GREAT[0], GREAT[2], LATE[0]]:
            for one, other in [(0, 99), (98, 99), (60, 37)]:
                self.check_linked(texts, one, other)

    def test_one_post_twice(self):
        for texts in TEXTS:
            for post in (0, 1, 13, 99):
                self.assertEqual(linked_for(Rule(texts), post, post), (post + 1, 1, [0]))

    def test_known_ones(self):
        self.assertEqual(linked_for(BARE, 0, 1), (2, 1, []))
        self.assertEqual(linked_for(PAIRS, 1, 2), (3, 1, []))
        self.assertEqual(linked_for(PAIRS, 3, 2), (4, 1, [0]))
        self.assertEqual(linked_for(BRICKS, 0, 99), (100, 1, [0]))
        self.assertEqual(linked_for(SLOW, 4, 3), (5, 1, [0]))

    def test_posts_below_0(self):
        for one, other, value in [(-1, 0, -1), (0, -1, -1), (-2, -3, -2), (5, -FAR, -FAR), (-FAR, 5, -FAR)]:
            check_refused(self, InvalidPost, value, linked_for, BRICKS, one, other)
            check_refused(self, InvalidPost, value, linked_for, other=other, one=one, rule=BARE)


class UnlikeTests(unittest.TestCase):
    def test_against_walks(self):
        asked = SMALL[::5] + GREAT + SAMPLES
        rules = [Rule(texts) for texts in asked]
        sizes = [[plain_sizes(texts, n) for n in range(1, 60)] for texts in asked]
        for one, mine in zip(rules, sizes):
            for other, theirs in list(zip(rules, sizes))[::3]:
                wanted = [n for n in range(1, 60) if mine[n - 1] != theirs[n - 1]][:1]
                told = first_unlike_sizes(one, other)
                self.assertEqual(told, first_unlike_sizes(other, one))
                if wanted:
                    self.assertEqual(told, wanted[0])
                else:
                    self.assertIsNone(told)
                    for n in (300, 1001, HUGE, HUGE - 1):
                        self.assertEqual(sizes_for(one, n), sizes_for(other, n))

    def test_alike_for_all_numbers(self):
        for texts in TEXTS + LATE:
            rule = Rule(texts)
            self.assertIsNone(first_unlike_sizes(rule, rule))
            self.assertIsNone(first_unlike_sizes(rule, rule.inverse()))
            self.assertIsNone(first_unlike_sizes(one=rule, other=Rule(texts[1:] + texts[:1])))
            self.assertIsNone(first_unlike_sizes(Rule([text * 2 for text in texts]), rule))

    def test_known_ones(self):
        self.assertEqual(first_unlike_sizes(BRICKS, BARE), 2)
        self.assertEqual(first_unlike_sizes(BRICKS, PAIRS), 3)
        self.assertIsNone(first_unlike_sizes(BRICKS, BRICKS.shifted(1)))
        self.assertEqual(first_unlike_sizes(PAIRS, PAIRS.shifted(1)), 2)
        self.assertEqual(first_unlike_sizes(Rule(["-....."]), Rule(["-...-."])), 6)
        self.assertEqual(first_unlike_sizes(Rule(["....."]), Rule(["....-"])), 6)


class JudgeTests(unittest.TestCase):
    def later(self, told, by, times):
        """Give right forms from forms, with `first` greater by so much and `every` so many times as great."""
        first, every, lots = told
        made = []
        for at in range(by, by + every * times):
            lot = []
            for length, longer, many, more in lots[at % every]:
                k = at // every
                lot.append((length + longer * k, longer * times, many + more * k, more * times))
            made.append(sorted(lot))
        return (first + by, every * times, made)

    def check_judge(self, rule, told, wanted):
        kept = repr(told)
        self.assertIs(judge_forms(rule, told), wanted, (rule.rows, told))
        self.assertEqual(repr(told), kept)

    def test_right_ones(self):
        for texts in TEXTS + LATE:
            rule = Rule(texts)
            told = forms_of(rule)
            if len(texts) < 6:
                told = plain_forms([plain_sizes(texts, n) for n in range(1, 200)], 56)
            for by in (0, 1, 2, 7, 100, 10 ** 30, FAR):
                for times in (1, 2, 3):
                    self.check_judge(rule, self.later(told, by, times), True)
            self.check_judge(rule, self.later(told, 0, 400 // told[1]), True)

    def test_other_numbers(self):
        for texts in TEXTS[::4] + LATE[:3]:
            rule = Rule(texts)
            first, every, lots = forms_of(rule)
            for at, lot in list(enumerate(lots))[:4]:
                for entry, form in enumerate(lot):
                    for place in range(4):
                        for by in (1, -1, FAR):
                            wrong = list(form)
                            wrong[place] += by
                            changed = lot[:entry] + [tuple(wrong)] + lot[entry + 1:]
                            self.check_judge(rule, (first, every, lots[:at] + [changed] + lots[at + 1:]), False)

    def test_other_lots(self):
        for texts in TEXTS:
            rule = Rule(texts)
            first, every, lots = forms_of(rule)
            lot = lots[0]
            empty = (max(form[0] for form in lot) + 1, 0, 0, 0)
            for wrong in [
                [], lot[1:], lot + lot[-1:], lot[:1] + lot, lot + [empty], lot[::-1] if len(lot) > 1 else [],
                [(0, 0, 0, 1)] + lot, sorted(lot + [(5, 1, 0, 0)]), sorted(lot + [(-5, 1, 1, 0)]),
                lot[:-1] + [lot[-1][:2] + (lot[-1][2] - 1, lot[-1][3]), lot[-1][:2] + (1, 0)],
            ]:
                self.check_judge(rule, (first, every, [wrong] + lots[1:]), False)
            self.check_judge(rule, (first, every, lots[1:]), False)
            self.check_judge(rule, (first, every, lots + lots[:1]), False)
            self.check_judge(rule, (first, every, []), False)
            self.check_judge(rule, (first, every, [[]] * every), False)

    def test_other_first_and_every(self):
        for texts in TEXTS + LATE:
            rule = Rule(texts)
            first, every, lots = forms_of(rule)
            for wrong in (0, -1, -FAR):
                self.check_judge(rule, (wrong, every, lots), False)
                self.check_judge(rule, (first, wrong, lots), False)
                self.check_judge(rule, (first, wrong, []), False)
            for wrong in (every + 1, 2 * every, FAR):
                self.check_judge(rule, (first, wrong, lots), False)
            self.check_judge(rule, (first - 1, every, lots), False)
            if every > 1:
                self.check_judge(rule, (first + 1, every, lots), False)
                self.check_judge(rule, (first, 1, lots[:1]), False)
                self.check_judge(rule, (first, every, lots[1:] + lots[:1]), False)
                self.check_judge(rule, (first, every + 1, self.later((first, every, lots), 0, 2)[2][:every + 1]), False)

    def test_a_lesser_first(self):
        late = 0
        for texts in TEXTS + LATE:
            rule = Rule(texts)
            first, every, lots = forms_of(rule)
            if first > 1:
                before = [(length - longer, longer, many - more, more) for length, longer, many, more in lots[-1]]
                before = sorted(form for form in before if form[2:] != (0, 0))
                late += sizes_of_lot(before, 0) is not None
                self.check_judge(rule, (first - 1, every, [before] + lots[:-1]), False)
        self.assertGreater(late, 0)

    def test_rings_and_forms_that_only_look_alike(self):
        # One ring that grows by one is, with every other number of posts, no ring that grows by two from elsewhere.
        self.check_judge(BRICKS, (1, 2, [[(1, 2, 1, 0)], [(2, 2, 1, 0)]]), True)
        self.check_judge(BRICKS, (1, 2, [[(2, 2, 1, 0)], [(1, 2, 1, 0)]]), False)
        self.check_judge(BRICKS, (1, 1, [[(1, 0, 1, 1)]]), False)
        self.check_judge(BARE, (1, 1, [[(1, 0, 1, 1)]]), True)
        self.check_judge(BARE, (1, 1, [[(1, 1, 1, 0)]]), False)
        self.check_judge(PAIRS, (1, 2, [[(1, 0, 1, 0), (2, 0, 0, 1)], [(2, 0, 1, 1)]]), True)
        self.check_judge(PAIRS, (1, 2, [[(2, 0, 0, 1), (1, 0, 1, 0)], [(2, 0, 1, 1)]]), False)
        self.check_judge(PAIRS, (2, 2, [[(2, 0, 1, 1)], [(1, 0, 1, 0), (2, 0, 1, 1)]]), True)
        self.check_judge(PAIRS, (2, 2, [[(2, 0, 1, 1)], [(1, 0, 1, 0), (2, 0, 0, 1)]]), False)
        self.check_judge(PAIRS, (1, 4, [[(1, 0, 1, 0), (2, 0, 0, 2)], [(2, 0, 1, 2)],
                                        [(1, 0, 1, 0), (2, 0, 1, 2)], [(2, 0, 2, 2)]]), True)

    def test_greatest_lists(self):
        form = (FAR, -FAR, FAR, -FAR)
        self.check_judge(BRICKS, (1, 400, [[form] * 400] * 400), False)
        self.check_judge(BRICKS, (FAR, FAR, [[form] * 400] * 400), False)


if __name__ == "__main__":
    unittest.main()
