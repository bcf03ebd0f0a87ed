"""Tests of rungrepeats/alike.py: rules that do the same for all numbers of posts, with promises [2], [3], [5], [9]."""

import itertools
import math
import unittest

from helper import (
    check_examples, check_interface, check_new_lists, check_refused, large_texts, plain_round, rows_of_width,
    rules_of_size,
)
from rungrepeats import alike
from rungrepeats.alike import first_unlike, idle_rows, may_exchange, same_round, same_rounds, shortest
from rungrepeats.errors import InvalidNumber
from rungrepeats.rules import Rule

EXAMPLE = """
>>> from rungrepeats.alike import first_unlike, idle_rows, may_exchange, same_round, same_rounds, shortest
>>> from rungrepeats.rules import Rule
>>> bricks, pairs = Rule(["-.", ".-"]), Rule(["-."])
>>> [same_round(Rule(["-.", "-."]), Rule(["."])), first_unlike(bricks, pairs), first_unlike(bricks, bricks.inverse()), same_rounds(pairs, 3, pairs, 1), may_exchange(pairs, Rule(["-...", "..-."])), idle_rows(Rule(["-.", "..", ".-"])), shortest(Rule(["-.", "-.", ".-"])).rows]
[True, (3, 0), (3, 0), True, True, [1], ['.-']]
"""

TEXTS = rules_of_size(1, 1) + rules_of_size(2, 1) + rules_of_size(2, 2) + rules_of_size(3, 1) + [
    ["-...", "..-."], ["-.-."], ["-...", "..-.", "-.-."], [".-.-", "..-."], ["-..", ".-.", "-..", "..-"],
    [".-.", "-..", ".-.", "..-"], ["....", "...."], ["-..", ".-.", "-.."], [".-.", "-..", ".-."],
]
LARGE = [
    ["-.-...", "....-.", ".-.-.-", "-.-...", ".-.-.-", "-....."],
    ["-.-...", "....-.", ".-.-.-", "-.-...", ".-.-.-", ".-...."],
    ["-.-.-.", ".-.-.-", "-.-.-.", ".-.-.-", "-.-.-.", ".-.-.-"],
    ["-.", ".-", "-.", ".-", "-.", ".-"],
    ["-.", ".-"],
    large_texts(6, 6, 21), large_texts(4, 6, 22), large_texts(3, 5, 23), large_texts(1, 6, 24),
]
FAR = 10 ** 62 - 1
BRICKS = Rule(["-.", ".-"])


def enough(one, other):
    """Give the number of posts that [9] names for two rules."""
    return math.lcm(len(one[0]), len(other[0])) + 2 * max(len(one), len(other))


def plain_unlike(one, other):
    """Give the least number of posts, and the least post, at which rounds end apart, by walks on all ladders."""
    for n in range(1, enough(one, other) + 1):
        for post, (mine, theirs) in enumerate(zip(plain_round(one, n), plain_round(other, n))):
            if mine != theirs:
                return n, post
    return None


def joined(one, other):
    """Give the rows of one rule and then those of the other one, in one width."""
    width = math.lcm(len(one[0]), len(other[0]))
    return [text * (width // len(text)) for text in one + other]


def plain_idle(texts):
    """Give the rows that may be left out, by walks on all ladders without them."""
    found = []
    for index in range(len(texts)):
        others = texts[:index] + texts[index + 1:] or ["." * len(texts[0])]
        if plain_unlike(others, texts) is None:
            found.append(index)
    return found


def plain_shortest(texts):
    """Try all lists of these rows, the short ones first."""
    for many in range(1, len(texts) + 1):
        for rows in itertools.product(sorted(set(texts)), repeat=many):
            if plain_unlike(list(rows), texts) is None:
                return list(rows)
    return None


class FormTests(unittest.TestCase):
    def test_examples(self):
        check_examples(self, EXAMPLE, 4)

    def test_interface(self):
        check_interface(self, alike, {
            same_round: ["one", "other"], first_unlike: ["one", "other"],
            same_rounds: ["one", "rounds", "other", "other_rounds"], may_exchange: ["one", "other"],
            idle_rows: ["rule"], shortest: ["rule"],
        })

    def test_arguments_by_name(self):
        pairs = Rule(["-."])
        self.assertIs(same_round(other=pairs, one=pairs), True)
        self.assertEqual(first_unlike(other=pairs, one=Rule(["."])), (2, 0))
        self.assertIs(same_rounds(other_rounds=1, other=pairs, rounds=3, one=pairs), True)
        self.assertIs(may_exchange(other=BRICKS, one=pairs), False)
        self.assertEqual(idle_rows(rule=Rule(["..", ".-"])), [0])
        self.assertEqual(shortest(rule=Rule(["..", ".-"])), Rule([".-"]))

    def test_new_lists_and_kinds(self):
        for texts in TEXTS:
            rule = Rule(texts)
            check_new_lists(self, lambda: idle_rows(rule))
            self.assertIs(shortest(rule).__class__, Rule)
            for other in TEXTS[:9]:
                told = first_unlike(rule, Rule(other))
                if told is not None:
                    self.assertEqual([kind.__class__ for kind in (told, *told)], [tuple, int, int])
            self.assertEqual(rule.rows, texts)


class RoundTests(unittest.TestCase):
    def check_unlike(self, one, other):
        wanted = plain_unlike(one, other)
        self.assertEqual(first_unlike(Rule(one), Rule(other)), wanted, (one, other))
        self.assertIs(same_round(Rule(one), Rule(other)), wanted is None)

    def test_rounds_of_two_rules(self):
        for one in TEXTS:
            for other in TEXTS:
                self.check_unlike(one, other)
        for one in LARGE:
            for other in LARGE + [large_texts(6, 6, 21)[:5], joined(one, one)[:len(one)]]:
                self.check_unlike(one, other)

    def test_all_rules_of_one_row(self):
        rows = [text for width in (1, 2, 3, 4) for text in rows_of_width(width)]
        for one in rows:
            for other in rows:
                self.check_unlike([one], [other])

    def test_apart_only_with_many_posts(self):
        # The last rung of a row is the first one that is not on ladders with fewer posts.
        for width in (2, 4, 6):
            one, other = Rule(["." * width]), Rule(["." * (width - 1) + "-"])
            self.assertEqual(first_unlike(one, other), (width + 1, width - 1))
        self.assertEqual(first_unlike(Rule(["-.-."]), Rule(["-.-.-."])), None)
        self.assertEqual(first_unlike(Rule(["-..."]), Rule(["-.....-....."[:6]])), (6, 4))
        self.assertEqual(first_unlike(Rule(["..-.", "-..."]), Rule([".....-"])), (2, 0))
        # Of all rules of these sizes, no two are apart later.
        for one, other, n in [
            ([".-", "-.", ".-", "-.", ".-"], ["-.", ".-", "-.", ".-", "-.", ".-", "-."], 4),
            (["-..", "..-", ".-.", "-.."], ["..-", "-..", ".-.", "-.."], 5),
            (["-...", ".-..", "-...", "...-"], ["...-", "-...", ".-..", "-..."], 7),
            (["-..-.", "....-", "-..-."], [".-.-.", ".-..-", "...-."], 7),
            (["-.-...", "-..-..", "..-..-"], ["-.-...", "...-.-", "-.-..."], 8),
        ]:
            self.assertEqual(first_unlike(Rule(one), Rule(other))[0], n)
            self.check_unlike(one, other)
            self.check_unlike(other, one)

    def test_the_same_in_other_words(self):
        self.assertIs(same_round(BRICKS, Rule(["-.-.", ".-.-"])), True)
        self.assertIs(same_round(BRICKS, Rule(["-.", "..", ".-"])), True)
        self.assertIs(same_round(Rule(["-...", "..-."]), Rule(["-."])), True)
        # The same between posts that stand far from both ends is not enough.
        self.assertEqual(first_unlike(Rule(["-..", ".-.", "-.."]), Rule([".-.", "-..", ".-."])), (2, 0))
        self.assertIs(same_round(BRICKS, BRICKS.inverse()), False)
        self.assertIs(same_round(BRICKS, BRICKS.then(Rule(["."]))), True)

    def test_several_rounds(self):
        for one in TEXTS + LARGE:
            for other in TEXTS[::3] + LARGE:
                for rounds, other_rounds in [(1, 1), (2, 1), (1, 2), (2, 2), (3, 2), (6, 4), (12, 12)]:
                    if max(len(one) * rounds, len(other) * other_rounds) <= 12:
                        wanted = plain_unlike(one * rounds, other * other_rounds) is None
                        told = same_rounds(Rule(one), rounds, Rule(other), other_rounds)
                        self.assertIs(told, wanted, (one, rounds, other, other_rounds))

    def test_known_rounds(self):
        pairs, bare = Rule(["-."]), Rule(["."])
        self.assertEqual([same_rounds(pairs, rounds, bare, 1) for rounds in range(1, 7)], [False, True] * 3)
        self.assertEqual([same_rounds(BRICKS, rounds, bare, 1) for rounds in range(1, 7)], [False] * 6)
        slow = Rule(["-..", ".-."])
        self.assertEqual([same_rounds(slow, rounds, bare, 5) for rounds in range(1, 7)], [False] * 5 + [True])
        back = slow.inverse()
        self.assertEqual([same_rounds(slow, rounds, back, 1) for rounds in range(1, 7)], [False] * 4 + [True, False])

    def test_either_order(self):
        for one in TEXTS + LARGE:
            for other in TEXTS[::2] + LARGE:
                wanted = plain_unlike(joined(one, other), joined(other, one)) is None
                self.assertIs(may_exchange(Rule(one), Rule(other)), wanted, (one, other))

    def test_known_orders(self):
        self.assertIs(may_exchange(BRICKS, BRICKS), True)
        self.assertIs(may_exchange(BRICKS, BRICKS.inverse()), True)
        self.assertIs(may_exchange(BRICKS, Rule(["."])), True)
        self.assertIs(may_exchange(BRICKS, Rule(["-."])), False)
        self.assertIs(may_exchange(Rule(["-....."]), Rule(["...-.."])), True)
        self.assertIs(may_exchange(Rule(["-....."]), Rule(["...-"])), False)

    def test_rules_somewhat_greater(self):
        one, other = large_texts(10, 10, 5), large_texts(4, 12, 6)
        self.check_unlike(one, one)
        self.check_unlike(one, other)
        self.assertIs(may_exchange(Rule(one), Rule(one)), True)
        self.assertIs(same_rounds(Rule(other), 3, Rule(other), 3), True)


class RowTests(unittest.TestCase):
    def test_idle_rows(self):
        for texts in TEXTS + LARGE + [["-.", "..", ".-"], ["..", "..", ".."], ["...", "-..", "..."]]:
            self.assertEqual(idle_rows(Rule(texts)), plain_idle(texts), texts)

    def test_known_idle_rows(self):
        self.assertEqual(idle_rows(Rule(["."])), [0])
        self.assertEqual(idle_rows(Rule(["-."])), [])
        self.assertEqual(idle_rows(Rule(["-.", "-."])), [])
        self.assertEqual(idle_rows(Rule(["......", ".....-", "......"])), [0, 2])

    def test_shortest(self):
        for texts in TEXTS + rules_of_size(3, 3) + [large_texts(6, 3, seed) for seed in range(30)]:
            if len(texts) <= 3:
                found = shortest(Rule(texts))
                self.assertEqual(found.rows, plain_shortest(texts), texts)
                self.assertIs(same_round(found, Rule(texts)), True)

    def test_shortest_of_wide_rules(self):
        rows = rows_of_width(6)
        for one, other in itertools.product(rows[::3], rows[1::4]):
            for texts in ([one, other, one], [one, one, other], [other, one, one]):
                self.assertEqual(shortest(Rule(texts)).rows, plain_shortest(texts), texts)

    def test_known_shortest(self):
        for texts, wanted in [
            (["."], ["."]),
            (["-."], ["-."]),
            # There is no rule without rows, so rows that undo each other stay if no row has no rung.
            (["-.", "-."], ["-.", "-."]),
            (["-.", "..", "-."], [".."]),
            ([".-", "-.", "-."], [".-"]),
            ([".-", "-."], [".-", "-."]),
            # Rows that may be exchanged, and rows of which two do what a third one does: the least list.
            (["..-.", "-..."], ["-...", "..-."]),
            (["..-.", "-...", "-.-."], ["-.-.", "-.-."]),
            ([".-.", "-..", ".-."], [".-.", "-..", ".-."]),
            (["...-.-", ".-....", ".-...."], ["...-.-"]),
        ]:
            self.assertEqual(shortest(Rule(texts)).rows, wanted)
            self.assertEqual(plain_shortest(texts), wanted)

    def test_more_rows(self):
        texts = rows_of_width(4)[:5]
        self.assertEqual(shortest(Rule(texts)).rows, plain_shortest(texts))
        self.assertEqual(shortest(Rule(["-.", ".-"] * 8)).height, 16)
        self.assertEqual(shortest(Rule(["-.", ".-"] * 8 + [".-", "-."] * 6)).rows, ["-.", ".-"] * 2)


class RefusalTests(unittest.TestCase):
    def test_numbers_of_rounds(self):
        for number in (0, -1, -FAR):
            for other in (1, 0, -3, FAR):
                check_refused(self, InvalidNumber, number, same_rounds, BRICKS, number, BRICKS, other)
            check_refused(self, InvalidNumber, number, same_rounds, BRICKS, 1, BRICKS, number)
            check_refused(self, InvalidNumber, number, same_rounds, one=BRICKS, rounds=6, other=BRICKS,
                          other_rounds=number)


if __name__ == "__main__":
    unittest.main()
