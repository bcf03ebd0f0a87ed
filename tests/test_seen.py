"""Tests of rungrepeats/seen.py: rules that fit what was seen, with promises [2], [3] and [5]."""

import itertools
import unittest

from helper import (
    GREAT, SAMPLES, SMALL, check_examples, check_interface, check_new_lists, check_refused, large_texts, plain_round,
    rows_of_width, rules_of_size,
)
from rungrepeats import seen
from rungrepeats.errors import InvalidNumber, InvalidPost, InvalidSize
from rungrepeats.rules import Rule
from rungrepeats.seen import all_fitting, best_look, fitting

EXAMPLE = """
>>> from rungrepeats.rules import Rule
>>> from rungrepeats.seen import all_fitting, best_look, fitting
>>> rules = [Rule(["-.", ".-"]), Rule(["-."]), Rule([".-", "-."])]
>>> [fitting(rules, [(3, 1, 0, 1)]), all_fitting(2, 1, [(3, 1, 0, 1)])[0].rows, best_look(rules, [(2, 1, 0), (3, 1, 0)]), len(all_fitting(3, 1, []))]
[[1, 2], ['-.'], (3, 1, 0), 4]
"""

FAR = 10 ** 62 - 1
ROUNDS = 10 ** 120
RULES = [Rule(["-.", ".-"]), Rule(["-."]), Rule([".-", "-."])]
# Equal rules, rules that do the same in other words, and one and the same object several times.
LISTS = [
    [], [["-."]], [["-."], ["-."], ["-.-."]], SAMPLES, GREAT[:7] + SAMPLES, SMALL[:20],
    [["-.", ".-"], ["-.-.", ".-.-"], ["-.", ".-"], [".-", "-."]] * 5,
]
PLACES = [(1, 0, 0), (1, 5, 0), (2, 1, 0), (3, 1, 2), (5, 2, 3), (7, 3, 0), (12, 9, 5), (60, 40, 59), (60, ROUNDS, 0),
          (59, ROUNDS - 1, 30), (60, 0, 7)]


def plain_end(texts, n, rounds, post):
    """Give where a walker stands after so many rounds, by the entries of the ring."""
    after = plain_round(texts, n)
    ring = [post]
    while after[ring[-1]] != post:
        ring.append(after[ring[-1]])
    return ring[rounds % len(ring)]


def plain_fitting(lists, looks):
    """Give the indexes of the rules by which each look ends where it did."""
    return [
        index for index, texts in enumerate(lists)
        if all(plain_end(texts, n, rounds, post) == end for n, rounds, post, end in looks)
    ]


def plain_best(lists, places):
    """Give the first place whose largest group of rules with one end is the smallest."""
    best = None
    for place in places:
        ends = [plain_end(texts, *place) for texts in lists]
        most = max((ends.count(end) for end in ends), default=0)
        if best is None or most < best[0]:
            best = (most, place)
    return best and best[1]


class FormTests(unittest.TestCase):
    def test_examples(self):
        check_examples(self, EXAMPLE, 4)

    def test_interface(self):
        check_interface(self, seen, {
            fitting: ["rules", "looks"], all_fitting: ["width", "height", "looks"], best_look: ["rules", "places"],
        })

    def test_arguments_by_name(self):
        self.assertEqual(fitting(looks=[(3, 1, 0, 1)], rules=RULES), [1, 2])
        self.assertEqual([rule.rows for rule in all_fitting(looks=[(3, 1, 0, 1)], height=1, width=2)], [["-."]])
        self.assertEqual(best_look(places=[(2, 1, 0), (3, 1, 0)], rules=RULES), (3, 1, 0))

    def test_new_lists_and_arguments_as_they_were(self):
        for lists in LISTS:
            rules = [Rule(texts) for texts in lists]
            kept = list(rules)
            looks = [(3, 1, 0, 1), (60, ROUNDS, 59, 59)]
            places = list(PLACES)
            check_new_lists(self, lambda: fitting(rules, looks))
            check_new_lists(self, lambda: fitting(rules, []))
            self.assertIs(best_look(rules, places).__class__, tuple)
            self.assertEqual((looks, places), ([(3, 1, 0, 1), (60, ROUNDS, 59, 59)], PLACES))
            self.assertEqual([rule.rows for rule in rules], lists)
            self.assertEqual([id(rule) for rule in rules], [id(rule) for rule in kept])
        self.assertIsNot(all_fitting(2, 2, []), all_fitting(2, 2, []))
        looks = [(3, 1, 0, 1)]
        self.assertEqual({rule.__class__ for rule in all_fitting(2, 2, looks)}, {Rule})
        self.assertEqual(looks, [(3, 1, 0, 1)])


class FittingTests(unittest.TestCase):
    def test_one_look(self):
        for lists in LISTS:
            rules = [Rule(texts) for texts in lists]
            for n, rounds, post in PLACES:
                ends = {plain_end(texts, n, rounds, post) for texts in lists}
                for end in ends | {0, post, n // 2, n - 1, (post + 1) % n}:
                    look = (n, rounds, post, end)
                    self.assertEqual(fitting(rules, [look]), plain_fitting(lists, [look]), look)

    def test_several_looks(self):
        for lists in LISTS:
            rules = [Rule(texts) for texts in lists]
            self.assertEqual(fitting(rules, []), list(range(len(lists))))
            for texts in lists[:6]:
                looks = [(*place, plain_end(texts, *place)) for place in PLACES]
                self.assertIn(lists.index(texts), fitting(rules, looks))
                for many in range(1, len(looks) + 1):
                    self.assertEqual(fitting(rules, looks[:many]), plain_fitting(lists, looks[:many]))
                    self.assertEqual(fitting(rules, looks[-many:] * 2), plain_fitting(lists, looks[-many:]))
                wrong = looks[:-1] + [(60, 0, 7, 8)]
                self.assertEqual(fitting(rules, wrong), [])

    def test_twenty_rules_and_looks(self):
        lists = [large_texts(6, 6, seed) for seed in range(20)]
        rules = [Rule(texts) for texts in lists]
        looks = [(60 - at, ROUNDS - at, at, plain_end(lists[7], 60 - at, ROUNDS - at, at)) for at in range(20)]
        self.assertEqual(fitting(rules, looks), plain_fitting(lists, looks))
        self.assertIn(7, fitting(rules, looks))


class AllTests(unittest.TestCase):
    def check_all(self, width, height, looks):
        lists = rules_of_size(width, height)
        wanted = [lists[index] for index in plain_fitting(lists, looks)]
        told = [rule.rows for rule in all_fitting(width, height, looks)]
        self.assertEqual(told, wanted, (width, height, looks))
        self.assertEqual(told, sorted(told))

    def test_all_sizes(self):
        for width, height in itertools.product((1, 2, 3), (1, 2, 3)):
            self.check_all(width, height, [])
            for texts in rules_of_size(width, height)[::5]:
                for many in (1, 2, 6):
                    self.check_all(width, height, [(*place, plain_end(texts, *place)) for place in PLACES[-many:]])
                    self.check_all(width, height, [(*place, plain_end(texts, *place)) for place in PLACES[2:2 + many]])

    def test_known_ones(self):
        self.assertEqual([rule.rows for rule in all_fitting(1, 1, [])], [["."]])
        self.assertEqual([rule.rows for rule in all_fitting(1, 2, [])], [[".", "."]])
        self.assertEqual([rule.rows for rule in all_fitting(3, 1, [])], [["-.."], [".-."], ["..-"], ["..."]])
        self.assertEqual([rule.rows for rule in all_fitting(2, 2, [(2, 1, 0, 1)])],
                         [["-.", ".-"], ["-.", ".."], [".-", "-."], ["..", "-."]])
        self.assertEqual(all_fitting(1, 3, [(2, 1, 0, 1)]), [])
        self.assertEqual(len(all_fitting(3, 3, [])), 64)

    def test_sizes_somewhat_greater(self):
        self.assertEqual(len(all_fitting(4, 3, [])), 343)
        self.assertEqual([rule.rows[0] for rule in all_fitting(7, 1, [])], sorted(rows_of_width(7)))
        self.check_all(4, 3, [(60, ROUNDS, 59, 58), (5, 1, 0, 1)])
        self.assertEqual(len(all_fitting(12, 1, [])), 322)


class BestTests(unittest.TestCase):
    def test_places(self):
        for lists in LISTS:
            rules = [Rule(texts) for texts in lists]
            for many in range(len(PLACES) + 1):
                for places in (PLACES[:many], PLACES[many:], PLACES[many::-1], PLACES[many:] + PLACES[:many]):
                    self.assertEqual(best_look(rules, places), plain_best(lists, places))

    def test_no_places_and_no_rules(self):
        self.assertIs(best_look([], []), None)
        self.assertIs(best_look(RULES, []), None)
        self.assertEqual(best_look([], [(5, 3, 2), (1, 0, 0)]), (5, 3, 2))
        self.assertEqual(best_look([RULES[0]], [(5, 3, 2), (1, 0, 0)]), (5, 3, 2))

    def test_rules_count_as_often_as_they_come(self):
        places = [(3, 1, 0), (3, 1, 1)]
        ends = [[plain_end(texts, *place) for texts in (["-.", ".-"], ["-."], [".-"])] for place in places]
        self.assertEqual(ends, [[2, 1, 0], [0, 0, 2]])
        bricks, pairs, later = Rule(["-.", ".-"]), Rule(["-."]), Rule([".-"])
        self.assertEqual(best_look([bricks, pairs, later], places[::-1]), (3, 1, 0))
        self.assertEqual(best_look([later, later, pairs], places[::-1]), (3, 1, 1))
        self.assertEqual(best_look([later, Rule([".-"]), pairs], places), (3, 1, 0))


class RefusalTests(unittest.TestCase):
    WRONG = [
        (InvalidSize, 0, (0, -1, -1)), (InvalidSize, -FAR, (-FAR, 1, 0)), (InvalidNumber, -1, (5, -1, 9)),
        (InvalidNumber, -FAR, (5, -FAR, 0)), (InvalidPost, 5, (5, 0, 5)), (InvalidPost, -1, (5, 0, -1)),
        (InvalidPost, FAR, (1, ROUNDS, FAR)),
    ]

    def test_places_and_looks(self):
        for kind, value, place in self.WRONG:
            for rules in ([], RULES):
                for end in (0, -1, FAR):
                    for before in ([], [(5, 1, 0, 4), (1, 0, 0, 0)]):
                        looks = before + [(*place, end), (0, 0, 0, 0), (4, -1, 0, 0)]
                        check_refused(self, kind, value, fitting, rules, looks)
                        check_refused(self, kind, value, all_fitting, 2, 1, looks)
                        places = [look[:3] for look in looks]
                        check_refused(self, kind, value, best_look, rules, places)
                        self.assertEqual(looks, before + [(*place, end), (0, 0, 0, 0), (4, -1, 0, 0)])
                        self.assertEqual(places, [look[:3] for look in looks])

    def test_ends(self):
        for end in (-1, 5, FAR, -FAR):
            for rules in ([], RULES):
                # The first look rules all rules out, and yet the other one is checked.
                looks = [(5, 0, 0, 1), (5, 2, 0, end), (5, 2, -7, 0)]
                check_refused(self, InvalidPost, end, fitting, rules=rules, looks=looks)
                check_refused(self, InvalidPost, end, all_fitting, 3, 1, looks)

    def test_widths_and_heights(self):
        for number in (0, -1, -FAR):
            for looks in ([], [(0, 0, 0, 0)]):
                check_refused(self, InvalidNumber, number, all_fitting, number, 1, looks)
                check_refused(self, InvalidNumber, number, all_fitting, number, -5, looks)
                check_refused(self, InvalidNumber, number, all_fitting, 1, number, looks)
                check_refused(self, InvalidNumber, number, all_fitting, looks=looks, height=number, width=3)


if __name__ == "__main__":
    unittest.main()
