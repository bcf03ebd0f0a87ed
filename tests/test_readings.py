"""Tests of rungrepeats/readings.py: rules and forms with a text, with promises [2], [3], [4] and [8]."""

import itertools
import re
import unittest

from helper import (
    GREAT, LATE, SAMPLES, SMALL, check_interface, check_new_lists, check_refused, is_plain_row, large_texts,
)
from rungrepeats import readings
from rungrepeats.errors import Unreadable
from rungrepeats.forms import forms_of
from rungrepeats.readings import read_forms, read_rule
from rungrepeats.rules import Rule
from rungrepeats.texts import show_forms, show_rule

TEXTS = SMALL + GREAT + LATE + SAMPLES
# All characters that a text may have.
MARKS = [chr(at) for at in range(32, 127) if at != 37]
GREATEST = "9" * 40
NUMBER = "(0|[1-9][0-9]{0,39})"
FORMS = [
    "1 1; 1+1x1+0",
    "1 2; 1+0x1+0 2+0x0+1; 2+0x1+1",
    "13 2; 10+2x1+0; 11+1x2+0 30+0x0+40",
]


def is_plain_rule(text):
    """Say whether a rule has a text."""
    rows = text.split("/")
    return all(is_plain_row(row) and len(row) == len(rows[0]) for row in rows)


def is_plain_lot(forms):
    """Say by the words of [8] whether forms, told as lists of numbers, are a lot."""
    for length, longer, many, more in forms:
        if length < 1 or (longer and more) or not (many or more):
            return False
    return forms == sorted(forms) and len({tuple(form[:2]) for form in forms}) == len(forms)


def is_plain_forms(text):
    """Say whether a tuple (first, every, lots) has a text, by a pattern for its marks and then by its numbers."""
    form = rf" {NUMBER}\+{NUMBER}x{NUMBER}\+{NUMBER}"
    if not re.fullmatch(rf"{NUMBER} {NUMBER}(;({form})+)+", text):
        return False
    head, *lots = text.split(";")
    first, every = [int(part) for part in head.split()]
    told = [[[int(part) for part in re.findall("[0-9]+", form)] for form in lot.split()] for lot in lots]
    return first > 0 and every == len(lots) and all(is_plain_lot(forms) for forms in told)


def changed_texts(text, marks):
    """Give a text with a character left out, put in, put in place of another one, or exchanged with the next one."""
    for at in range(len(text)):
        yield text[:at] + text[at + 1:]
        yield text[:at] + text[at + 1:at + 2] + text[at] + text[at + 2:]
        for mark in marks:
            yield text[:at] + mark + text[at + 1:]
    for at in range(len(text) + 1):
        for mark in marks:
            yield text[:at] + mark + text[at:]


def check_rule(case, text):
    """Check that a text is read as the rule with it, or refused if there is none."""
    if is_plain_rule(text):
        case.assertEqual(read_rule(text).rows, text.split("/"))
        case.assertEqual(show_rule(read_rule(text)), text)
    else:
        check_refused(case, Unreadable, text, read_rule, text)


def check_forms(case, text):
    """Check that a text is read as the forms with it, or refused if there are none."""
    if is_plain_forms(text):
        case.assertEqual(show_forms(read_forms(text)), text)
    else:
        check_refused(case, Unreadable, text, read_forms, text)


class FormTests(unittest.TestCase):
    def test_interface(self):
        check_interface(self, readings, {read_rule: ["text"], read_forms: ["text"]})

    def test_arguments_by_name(self):
        self.assertEqual(read_rule(text="-.").rows, ["-."])
        self.assertEqual(read_forms(text="1 1; 1+0x1+1"), (1, 1, [[(1, 0, 1, 1)]]))
        check_refused(self, Unreadable, "x", read_rule, text="x")
        check_refused(self, Unreadable, "x", read_forms, text="x")

    def test_new_lists_and_kinds(self):
        for text in FORMS:
            check_new_lists(self, lambda: read_forms(text))
            told = read_forms(text)
            self.assertEqual([kind.__class__ for kind in (told, *told)], [tuple, int, int, list])
            for lot in told[2]:
                self.assertIs(lot.__class__, list)
                for form in lot:
                    self.assertEqual([kind.__class__ for kind in (form, *form)], [tuple, int, int, int, int])
        self.assertIs(read_rule("-.").__class__, Rule)


class RuleTests(unittest.TestCase):
    def test_what_is_shown_is_read_again(self):
        for texts in TEXTS + [large_texts(60, 40, 1), ["." * 20000], ["."] * 10000, ["-."] * 6666]:
            rule = read_rule(show_rule(Rule(texts)))
            self.assertEqual(rule, Rule(texts))
            self.assertEqual((rule.rows, rule.width, rule.height, len(rule)),
                             (texts, len(texts[0]), len(texts), len(texts)))

    def test_all_short_texts(self):
        for many in range(7):
            for marks in itertools.product("-./", repeat=many):
                check_rule(self, "".join(marks))

    def test_changed_texts(self):
        for text in ("-./.-", "-..../.-.-./.....", "."):
            for changed in changed_texts(text, MARKS):
                check_rule(self, changed)

    def test_unreadable_texts(self):
        for text in ("", "/", "-", "--", "-./", "/-.", "-.//.-", "-./.", "-../-.", "-.-", "-./.-/--", "-.\\.-",
                     "-. /.-", " -.", "-.\n", "x", "-.x", "_.", "1", "-./.-;", "/" * 20000, "-" * 20000,
                     "." * 19999 + "x"):
            check_refused(self, Unreadable, text, read_rule, text)


class FormsTests(unittest.TestCase):
    def test_what_is_shown_is_read_again(self):
        for texts in TEXTS:
            told = forms_of(Rule(texts))
            self.assertEqual(read_forms(show_forms(told)), told)

    def test_what_no_rule_has(self):
        # The least possible numbers are not asked, nor whether all posts are on rings.
        great = 10 ** 40 - 1
        for told in [
            (1, 2, [[(1, 0, 1, 1)], [(1, 0, 1, 1)]]),
            (great, 1, [[(great, great, great, 0)]]),
            (7, 1, [[(1, 0, 0, great), (1, 3, 5, 0), (2, 0, 2, 2), (2, 1, 1, 0), (9, 0, 1, 0)]]),
            (5, 300, [[(1, 0, 1, 0), (7, 2, 1, 0)]] * 300),
            (1, 1, [[(length, 0, 1, 0) for length in range(1, 1500)]]),
        ]:
            self.assertEqual(read_forms(show_forms(told)), told)
            self.assertTrue(is_plain_forms(show_forms(told)))

    def test_changed_texts(self):
        for text in FORMS:
            for changed in changed_texts(text, MARKS):
                check_forms(self, changed)

    def test_changed_twice(self):
        for changed in changed_texts("1 1; 1+1x1+0", "01+x; "):
            for again in changed_texts(changed, "02 ;"):
                check_forms(self, again)

    def test_numbers(self):
        places = "1 1; 5+0x3+2".replace("1 1", "F 1").replace("5", "L").replace("3", "M").replace("2", "R")
        good = {"F": "1", "L": "5", "M": "3", "R": "2"}
        for place in good:
            for number, readable in [
                (GREATEST, True), ("1" + "0" * 39, True), ("7", True), ("10", True), ("0", place in "MR"),
                ("1" + "0" * 40, False), (GREATEST + "9", False), ("9" * 5000, False), ("07", False), ("00", False),
                ("0" * 41, False), ("-1", False), ("+1", False), ("1.0", False), ("1_0", False), ("", False),
                (" 1", False), ("1 ", False), ("0x1", False), ("a", False), ("1e3", False), ("True", False),
            ]:
                text = places.replace(place, number)
                for other in good:
                    text = text.replace(other, good[other])
                check_forms(self, text)
                self.assertIs(is_plain_forms(text), readable, text)

    def test_lots(self):
        for text, readable in [
            ("1 1; 1+0x1+0 1+1x1+0", True),
            ("1 1; 1+1x1+0 1+0x1+0", False),
            ("1 1; 1+0x1+0 1+0x2+0", False),
            ("1 1; 1+0x1+0 1+0x1+0", False),
            ("1 1; 1+0x1+0 1+0x1+1", False),
            ("1 1; 2+0x1+0 1+0x1+0", False),
            ("1 1; 10+0x1+0 9+0x1+0", False),
            ("1 1; 9+0x1+0 10+0x1+0", True),
            ("1 1; 1+0x0+0", False),
            ("1 1; 1+1x0+0", False),
            ("1 1; 1+1x0+1", False),
            ("1 1; 1+1x1+1", False),
            ("1 1; 1+0x0+1", True),
            ("1 1; 0+1x1+0", False),
            ("1 1", False),
            ("1 0", False),
            ("1 1;", False),
            ("1 1; ", False),
            ("1 2; 1+0x1+0", False),
            ("1 1; 1+0x1+0; 1+0x1+0", False),
            ("1 2; 1+0x1+0;", False),
            ("1 2;; 1+0x1+0", False),
            ("1 2; 1+0x1+0; 1+0x1+0", True),
            ("1 0; 1+0x1+0", False),
            ("0 1; 1+0x1+0", False),
            (f"1 {GREATEST}; 1+0x1+0", False),
            ("1  1; 1+0x1+0", False),
            (" 1 1; 1+0x1+0", False),
            ("1 1 ; 1+0x1+0", False),
            ("1 1;1+0x1+0", False),
            ("1 1;  1+0x1+0", False),
            ("1 1; 1+0x1+0 ", False),
            ("1 1; 1+0x1+0  2+0x1+0", False),
            ("1 1; 1+0x1", False),
            ("1 1; 1x1+0", False),
            ("1 1; 1+0x1+0+0", False),
            ("1 1; 1+0x1+0x1", False),
            ("1 1; 1+0 1+0", False),
            ("1 1; 1+0*1+0", False),
            ("1 1, 1+0x1+0", False),
            ("1, 1; 1+0x1+0", False),
            ("1 1; 1+0X1+0", False),
            ("1; 1+0x1+0", False),
            ("1 1 1; 1+0x1+0", False),
            ("", False),
            (";", False),
            (";" * 20000, False),
            (" " * 20000, False),
            ("1 1;" + " 1+0x1+0" * 2400, False),
        ]:
            self.assertIs(is_plain_forms(text), readable, text)
            check_forms(self, text)


if __name__ == "__main__":
    unittest.main()
