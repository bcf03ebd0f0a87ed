"""Tests of rungrepeats/texts.py: rules and forms as texts, with promises [2] and [8]."""

import unittest

from helper import GREAT, LATE, SAMPLES, SMALL, check_examples, check_interface, large_texts
from rungrepeats import texts as texts_module
from rungrepeats.forms import forms_of
from rungrepeats.rules import Rule
from rungrepeats.texts import show_forms, show_rule

EXAMPLE = """
>>> from rungrepeats.forms import forms_of
>>> from rungrepeats.readings import read_forms, read_rule
>>> from rungrepeats.rules import Rule
>>> from rungrepeats.texts import show_forms, show_rule
>>> pairs = Rule(["-."])
>>> [show_rule(Rule(["-.", ".-"])), read_rule("-../.-.").rows, show_forms(forms_of(pairs)), read_forms(show_forms(forms_of(pairs))) == forms_of(pairs), show_forms((1, 1, [[(1, 1, 1, 0)]]))]
['-./.-', ['-..', '.-.'], '1 2; 1+0x1+0 2+0x0+1; 2+0x1+1', True, '1 1; 1+1x1+0']
"""

TEXTS = SMALL + GREAT + LATE + SAMPLES


class FormTests(unittest.TestCase):
    def test_examples(self):
        check_examples(self, EXAMPLE, 6)

    def test_interface(self):
        check_interface(self, texts_module, {show_rule: ["rule"], show_forms: ["told"]})

    def test_arguments_by_name(self):
        self.assertEqual(show_rule(rule=Rule(["-."])), "-.")
        self.assertEqual(show_forms(told=(1, 1, [[(1, 0, 1, 1)]])), "1 1; 1+0x1+1")

    def test_arguments_as_they_were(self):
        for texts in TEXTS:
            rule = Rule(texts)
            told = forms_of(rule)
            kept = repr(told)
            self.assertIs(show_rule(rule).__class__, str)
            self.assertIs(show_forms(told).__class__, str)
            self.assertEqual((rule.rows, repr(told)), (texts, kept))


class ShowTests(unittest.TestCase):
    def test_rules(self):
        for texts in TEXTS + [large_texts(60, 40, 1), ["." * 20000], ["."] * 10000]:
            text = show_rule(Rule(texts))
            self.assertEqual(text.split("/"), texts)
            self.assertEqual(len(text), (len(texts[0]) + 1) * len(texts) - 1)

    def test_forms(self):
        for texts in TEXTS:
            first, every, lots = forms_of(Rule(texts))
            text = f"{first} {every}"
            for lot in lots:
                text += ";"
                for length, longer, many, more in lot:
                    text += f" {length}+{longer}x{many}+{more}"
            self.assertEqual(show_forms((first, every, lots)), text)

    def test_known_ones(self):
        self.assertEqual(show_rule(Rule(["."])), ".")
        self.assertEqual(show_rule(Rule(["-..", "...", ".-."])), "-../.../.-.")
        self.assertEqual(show_forms((1, 1, [[(1, 0, 1, 1)]])), "1 1; 1+0x1+1")
        self.assertEqual(show_forms((17, 2, [[(1, 2, 1, 0)], [(1, 1, 2, 0), (3, 0, 0, 4)]])),
                         "17 2; 1+2x1+0; 1+1x2+0 3+0x0+4")
        great = 10 ** 40 - 1
        self.assertEqual(show_forms((great, 1, [[(great, 0, great, great)]])),
                         "9 1; 9+0x9+9".replace("9", "9" * 40))
        self.assertEqual(show_forms(forms_of(Rule(["-..", ".-."]))),
                         "1 3; 1+0x1+0 3+0x0+1; 2+0x1+0 3+0x0+1; 3+0x1+1")


if __name__ == "__main__":
    unittest.main()
