"""Tests of rungrepeats/rules.py: promises [2], [3] and [4]."""

import inspect
import itertools
import math
import unittest

from helper import HUGE, SAMPLES, check_examples, check_refused, is_plain_row, large_texts, plain_rung
from rungrepeats import rules
from rungrepeats.errors import InvalidNumber, InvalidPost, InvalidRow, InvalidSize
from rungrepeats.rules import Rule

EXAMPLE = """
>>> from rungrepeats.rules import Rule
>>> bricks = Rule(["-.", ".-"])
>>> [bricks.width, bricks.inverse().rows, bricks.mirrored(5).rows, bricks.shifted(1).rows, (bricks + Rule(["-.."])).rows, bricks.has_rung(3, 10 ** 20 + 1), len(bricks), bricks.shifted(1) == bricks.inverse()]
[2, ['.-', '-.'], ['.-', '-.'], ['.-', '-.'], ['-.-.-.', '.-.-.-', '-..-..'], True, 2, True]
"""

LARGE = [large_texts(60, 40, 1), large_texts(59, 40, 2), large_texts(1, 40, 3), large_texts(60, 1, 4)]
TEXTS = SAMPLES + LARGE
SHIFTS = [0, 1, 2, 3, 5, 7, 59, 60, 61, -1, -2, -60, 10 ** 60 + 7, -10 ** 60 - 7, 10 ** 62 - 1, -10 ** 62 + 1]
SIZES = [1, 2, 3, 4, 5, 6, 7, 11, 60, 61, 300, 10 ** 20 + 1, HUGE - 1, HUGE]


class FormTests(unittest.TestCase):
    def test_examples(self):
        check_examples(self, EXAMPLE, 3)

    def test_interface(self):
        told = {
            "inverse": ["self"], "shifted": ["self", "by"], "then": ["self", "other"],
            "has_rung": ["self", "row", "post"], "mirrored": ["self", "n"], "__add__": ["self", "other"],
            "__len__": ["self"], "__eq__": ["self", "other"], "__init__": ["self", "texts"],
        }
        self.assertEqual(Rule.__module__, rules.__name__)
        for name, parameters in told.items():
            self.assertEqual(list(inspect.signature(vars(Rule)[name]).parameters), parameters)
        for name in ("rows", "width", "height"):
            self.assertIsInstance(vars(Rule)[name], property)


class MakingTests(unittest.TestCase):
    def check_sizes(self, texts):
        rule = Rule(texts)
        self.assertEqual(rule.rows, texts)
        self.assertIs(rule.rows.__class__, list)
        self.assertEqual((rule.width, rule.height, len(rule)), (len(texts[0]), len(texts), len(texts)))

    def test_rows_and_sizes(self):
        for texts in TEXTS:
            self.check_sizes(texts)

    def test_texts_by_name(self):
        self.assertEqual(Rule(texts=["-..", ".-."]).rows, ["-..", ".-."])

    def test_empty_list_is_refused(self):
        check_refused(self, InvalidSize, 0, Rule, [])
        check_refused(self, InvalidSize, 0, Rule, texts=[])

    def test_each_short_text_is_a_row_or_refused(self):
        for width in range(8):
            for marks in itertools.product("-.", repeat=width):
                text = "".join(marks)
                if is_plain_row(text):
                    self.check_sizes([text])
                else:
                    check_refused(self, InvalidRow, text, Rule, [text])

    def test_what_is_no_row_is_refused(self):
        wrong = ["", "-", "--", "--.", ".--", "-.-", "-..-", "-...-", " ", "x", "-.x", "x.-", ". ", "-. ", " -.", "_.",
                 "-,", "-./", "-.\n", "0", "-" * 60, "-." * 29 + "--", "." * 30 + "--" + "." * 28, "-" + "." * 58 + "-"]
        for text in wrong:
            self.assertFalse(is_plain_row(text))
            check_refused(self, InvalidRow, text, Rule, [text])
            check_refused(self, InvalidRow, text, Rule, [text, "-."])
            check_refused(self, InvalidRow, text, Rule, ["." * max(1, len(text)), text])

    def test_another_length_is_refused(self):
        for text in ("-.", "-...", ".", "-..-..", "......", ""):
            check_refused(self, InvalidRow, text, Rule, ["-..", text])
            check_refused(self, InvalidRow, text, Rule, ["-..", ".-.", text, "..-"])

    def test_the_first_wrong_entry_is_told(self):
        check_refused(self, InvalidRow, "--", Rule, ["--", "x", ""])
        check_refused(self, InvalidRow, "x.", Rule, ["-.", "x.", "--"])
        check_refused(self, InvalidRow, "-..", Rule, ["-.", ".-", "-..", "--"])
        check_refused(self, InvalidRow, "--", Rule, ["-.", ".-", "--", "-.."])
        check_refused(self, InvalidRow, "", Rule, ["", "", "."])
        check_refused(self, InvalidRow, "--" + "." * 58, Rule, ["." * 60] * 39 + ["--" + "." * 58])

    def test_a_good_rule_is_made_behind_a_refusal(self):
        texts = ["-.", ".-", "--"]
        check_refused(self, InvalidRow, "--", Rule, texts)
        self.assertEqual(texts, ["-.", ".-", "--"])
        texts[2] = ".."
        self.check_sizes(texts)

    def test_the_list_that_was_passed_stays_as_it_was(self):
        for texts in TEXTS:
            passed = list(texts)
            rule = Rule(passed)
            rule.inverse(), rule.shifted(1), rule.mirrored(4), rule.then(rule), rule + rule, rule.has_rung(1, 1)
            self.assertEqual(passed, texts)

    def test_the_list_that_was_passed_is_not_kept(self):
        passed = ["-..", ".-."]
        rule = Rule(passed)
        passed[0] = "..."
        passed.append("..-")
        self.assertEqual((rule.rows, rule.height), (["-..", ".-."], 2))
        passed.clear()
        self.assertEqual((rule.rows, rule.has_rung(0, 3), len(rule)), (["-..", ".-."], True, 2))

    def test_the_rows_are_a_new_list_each_time(self):
        rule = Rule(["-..", ".-."])
        for made in (rule, rule.inverse(), rule.shifted(1), rule.mirrored(4), rule.then(rule), rule + rule):
            before = made.rows
            told = made.rows
            self.assertIsNot(told, before)
            told[0] = "..."
            told.append("..-")
            self.assertEqual((made.rows, made.height), (before, len(before)))
            told.clear()
            self.assertEqual(made.rows, before)


class MadeTests(unittest.TestCase):
    """Rules that are made from rules; the ones that are asked stay as they are."""

    def check_made(self, made, texts, asked, before):
        self.assertIsInstance(made, Rule)
        self.assertEqual(made.rows, texts)
        self.assertEqual((made.width, made.height, len(made)), (len(texts[0]), len(texts), len(texts)))
        self.assertTrue(all(is_plain_row(text) for text in texts))
        self.assertEqual(asked.rows, before)

    def test_inverse(self):
        for texts in TEXTS:
            rule = Rule(texts)
            self.check_made(rule.inverse(), [texts[-1 - at] for at in range(len(texts))], rule, texts)
            self.check_made(rule.inverse().inverse(), texts, rule, texts)

    def test_shifted(self):
        for texts in TEXTS:
            rule = Rule(texts)
            width = len(texts[0])
            for by in SHIFTS + [width, -width, width + 1, 2 * width]:
                wanted = []
                for text in texts:
                    row = [""] * width
                    for at in range(width):
                        row[(at + by) % width] = text[at]
                    wanted.append("".join(row))
                self.check_made(rule.shifted(by), wanted, rule, texts)
            self.assertEqual(rule.shifted(by=1), rule.shifted(1))

    def test_shifted_by_the_width_and_back(self):
        for texts in TEXTS:
            rule = Rule(texts)
            self.assertEqual(rule.shifted(0), rule)
            self.assertEqual(rule.shifted(rule.width), rule)
            self.assertEqual(rule.shifted(-10 ** 61).shifted(10 ** 61), rule)
        self.assertEqual(Rule(["-....", ".-.-."]).shifted(2).rows, ["..-..", "-..-."])
        self.assertEqual(Rule(["-....", ".-.-."]).shifted(-1).rows, ["....-", "-.-.."])

    def check_then(self, first, second):
        one, other = Rule(first), Rule(second)
        width = math.lcm(len(first[0]), len(second[0]))
        wanted = ["".join([text[at % len(text)] for at in range(width)]) for text in first + second]
        for made in (one.then(other), one + other, one.then(other=other)):
            self.check_made(made, wanted, one, first)
        self.assertEqual(other.rows, second)

    def test_then_and_plus(self):
        for first in SAMPLES:
            for second in SAMPLES:
                self.check_then(first, second)

    def test_then_and_plus_of_large_rules(self):
        self.check_then(large_texts(60, 20, 5), large_texts(60, 20, 6))
        self.check_then(large_texts(12, 3, 5), large_texts(20, 37, 6))
        self.check_then(large_texts(1, 20, 5), large_texts(60, 20, 6))
        self.check_then(large_texts(4, 40, 5), large_texts(15, 40, 6))

    def test_three_rules_one_behind_the_other(self):
        one, two, three = Rule(["-."]), Rule(["-..", ".-."]), Rule(["...-"])
        wanted = ["-.-.-.-.-.-.", "-..-..-..-..", ".-..-..-..-.", "...-...-...-"]
        for made in (one + two + three, one + (two + three), one.then(two).then(three), one.then(two + three)):
            self.check_made(made, wanted, one, ["-."])
        self.assertEqual((two.rows, three.rows), (["-..", ".-."], ["...-"]))

    def test_a_rule_behind_itself(self):
        rule = Rule(["-..", ".-."])
        self.check_made(rule + rule, ["-..", ".-.", "-..", ".-."], rule, ["-..", ".-."])

    def test_mirrored(self):
        for texts in TEXTS:
            rule = Rule(texts)
            width = len(texts[0])
            for n in SIZES + [width, width + 1, width + 2]:
                wanted = ["".join([text[(n - 2 - at) % width] for at in range(width)]) for text in texts]
                self.check_made(rule.mirrored(n), wanted, rule, texts)
                self.assertEqual(rule.mirrored(n).mirrored(n), rule)
            self.assertEqual(rule.mirrored(n=5), rule.mirrored(5))

    def test_mirrored_has_the_rungs_seen_from_the_other_side(self):
        for texts in SAMPLES:
            for n in range(1, 12):
                mirrored = Rule(texts).mirrored(n)
                for row in range(len(texts)):
                    for post in range(n - 1):
                        self.assertEqual(mirrored.has_rung(row, post), plain_rung(texts, row, n - 2 - post))

    def test_mirrored_refuses_a_ladder_without_posts(self):
        rule = Rule(["-..", ".-."])
        for n in (0, -1, -5, -HUGE):
            check_refused(self, InvalidSize, n, rule.mirrored, n)
            check_refused(self, InvalidSize, n, rule.mirrored, n=n)
        self.check_made(rule.mirrored(1), ["..-", ".-."], rule, ["-..", ".-."])


class RungTests(unittest.TestCase):
    def test_has_rung(self):
        for texts in SAMPLES:
            rule = Rule(texts)
            for row in range(2 * len(texts) + 1):
                for post in range(2 * len(texts[0]) + 1):
                    self.assertIs(rule.has_rung(row, post), plain_rung(texts, row, post))
            self.assertEqual(rule.rows, texts)

    def test_has_rung_of_large_rules_and_numbers(self):
        starts = [0, 58, 299, 10 ** 20, 10 ** 30 - 9, 10 ** 61, 10 ** 62 - 70]
        for texts in TEXTS:
            rule = Rule(texts)
            for row in starts:
                for post in starts:
                    for by in range(8):
                        self.assertIs(rule.has_rung(row + by, post), plain_rung(texts, row + by, post))
                        self.assertIs(rule.has_rung(row, post + by), plain_rung(texts, row, post + by))

    def test_has_rung_by_name(self):
        rule = Rule(["-..", "..."])
        self.assertIs(rule.has_rung(post=1, row=0), False)
        self.assertIs(rule.has_rung(row=0, post=3), True)
        self.assertIs(rule.has_rung(0, post=4), False)

    def test_has_rung_refuses_numbers_below_0_in_order(self):
        rule = Rule(["-.", ".-"])
        for row, post in [(-1, 0), (-1, -2), (-10 ** 61, 5), (-2, -1)]:
            check_refused(self, InvalidNumber, row, rule.has_rung, row, post)
            check_refused(self, InvalidNumber, row, rule.has_rung, post=post, row=row)
        for row, post in [(0, -1), (1, -2), (10 ** 61, -10 ** 61)]:
            check_refused(self, InvalidPost, post, rule.has_rung, row, post)
        self.assertIs(rule.has_rung(0, 0), True)
        self.assertEqual(rule.rows, ["-.", ".-"])


class EqualTests(unittest.TestCase):
    def test_rules_with_equal_rows_are_equal(self):
        for one in TEXTS:
            for other in TEXTS:
                self.assertIs(Rule(list(one)) == Rule(list(other)), one == other)
                self.assertIs(Rule(list(one)) != Rule(list(other)), one != other)
        rule = Rule(["-."])
        self.assertIs(rule == rule, True)
        self.assertIs(rule != rule, False)

    def test_other_rows_heights_and_widths_are_not_equal(self):
        rule = Rule(["-.", ".-"])
        others = [[".-", "-."], ["-.", "-."], ["-.", ".."], ["-."], [".-"], ["-.", ".-", "-.", ".-"],
                  ["-.-.", ".-.-"], ["-..", ".-."], ["."]]
        for texts in others:
            self.assertIs(rule == Rule(texts), False)
            self.assertIs(rule != Rule(texts), True)

    def test_made_rules_are_compared_by_their_rows(self):
        bricks = Rule(["-.", ".-"])
        self.assertEqual(bricks.shifted(1), bricks.inverse())
        self.assertEqual(Rule(["-."]) + Rule([".-"]), bricks)
        self.assertNotEqual(bricks.shifted(1), bricks)
        self.assertNotEqual(bricks + bricks, bricks)

    def test_a_rule_is_not_equal_to_anything_else(self):
        class Alike:
            rows = ["-."]
            _rows = ("-.",)

            def __eq__(self, other):
                return True

        rule = Rule(["-."])
        for other in (["-."], ("-.",), "-.", 1, 0, None, True, {"rows": ["-."]}, "", [], Rule, object()):
            self.assertIs(rule == other, False)
            self.assertIs(other == rule, False)
            self.assertIs(rule != other, True)
            self.assertIs(other != rule, True)
        self.assertIs(rule == Alike(), False)


if __name__ == "__main__":
    unittest.main()
