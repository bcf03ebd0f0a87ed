"""Tests of rungrepeats/live.py: ladders whose rungs are set one by one, with promises [2], [3] and [5]."""

import inspect
import itertools
import random
import unittest

from helper import GREAT, HUGE, SAMPLES, check_examples, check_new_lists, check_refused, plain_rung, rows_of_width
from rungrepeats import live
from rungrepeats.errors import InvalidPost, InvalidRow, InvalidSize, NothingToUndo, OffRule, Taken
from rungrepeats.live import Ladder, RuleLadder
from rungrepeats.rules import Rule

EXAMPLE = """
>>> from rungrepeats.live import Ladder, RuleLadder
>>> from rungrepeats.rules import Rule
>>> ladder = Ladder(4)
>>> [ladder(0), ladder.next_row(), ladder(1), ladder.add_row("-.-"), ladder.order(), ladder.rows, ladder.undo(), len(ladder)]
[[1, 0, 2, 3], 2, [2, 0, 1, 3], None, [3, 1, 0, 2], ['-..', '.-.', '-.-'], None, 2]
>>> ruled = RuleLadder(Rule(["-.", ".-"]), 3)
>>> [ruled(0), ruled.is_full(), ruled.next_row(), ruled.is_full(), ruled.rule.rows, ruled == ladder]
[[1, 0, 2], True, 2, False, ['-.', '.-'], False]
"""

FAR = 10 ** 62 - 1
BRICKS = Rule(["-.", ".-"])


def plain_order(n, rows):
    """Walk each walker down all rows, and give where they come out."""
    order = []
    for at in range(n):
        for text in rows:
            if at + 1 < n and text[at] == "-":
                at += 1
            elif at > 0 and text[at - 1] == "-":
                at -= 1
        order.append(at)
    return order


def plain_call(texts, n, rows, post):
    """Give the rows with one rung more, or the kind and the value of the error; without a rule, texts is None."""
    if post not in range(n - 1):
        return InvalidPost, post
    for end in (post, post + 1):
        if any(rows[-1][rung] == "-" for rung in (end - 1, end) if 0 <= rung < n - 1):
            return Taken, end
    if texts and not plain_rung(texts, len(rows) - 1, post):
        return OffRule, post
    return rows[:-1] + [rows[-1][:post] + "-" + rows[-1][post + 1:]]


def plain_add(texts, n, rows, text):
    """Give the rows with one row more, or the kind and the value of the error."""
    if len(text) != n - 1 or set(text) - set("-.") or "--" in text:
        return InvalidRow, text
    for post, mark in enumerate(text):
        if texts and mark == "-" and not plain_rung(texts, len(rows), post):
            return OffRule, post
    return rows + [text]


def is_plain_full(texts, rows):
    """Say whether each row has all rungs of the rule."""
    return all((mark == "-") == plain_rung(texts, row, post) for row, text in enumerate(rows)
               for post, mark in enumerate(text))


def made(texts, n):
    """Make a ladder, of a rule if its rows are told."""
    return Ladder(n) if texts is None else RuleLadder(Rule(texts), n)


def some_texts(chance, texts, n, row):
    """Give a text that may be added or not: rungs of the rule, of all posts, or something that is no row."""
    if texts and chance.random() < 0.6:
        text = "".join("-" if plain_rung(texts, row, post) and chance.random() < 0.7 else "." for post in range(n - 1))
    else:
        text = "".join(chance.choice("-...") for _ in range(n - 1))
    if chance.random() < 0.1:
        at = chance.randrange(n)
        text = text[:at] + chance.choice(["", "-", "x", "--", "/", " "]) + text[at + chance.randrange(2):]
    return text


class FormTests(unittest.TestCase):
    def test_examples(self):
        check_examples(self, EXAMPLE, 6)

    def test_interface(self):
        for name in ("__init__", "__call__", "next_row", "order", "add_row", "rows", "undo", "__len__", "__eq__"):
            self.assertIn(name, vars(Ladder))
        for name in ("__init__", "__call__", "add_row", "__eq__", "rule", "is_full"):
            self.assertIn(name, vars(RuleLadder))
        self.assertEqual((Ladder.__bases__, RuleLadder.__bases__), ((object,), (Ladder,)))
        self.assertEqual((Ladder.__module__, RuleLadder.__module__), (live.__name__, live.__name__))
        for call, parameters in [
            (Ladder, ["n"]), (RuleLadder, ["rule", "n"]), (Ladder.__call__, ["self", "post"]),
            (RuleLadder.__call__, ["self", "post"]), (Ladder.add_row, ["self", "text"]),
            (RuleLadder.add_row, ["self", "text"]), (Ladder.next_row, ["self"]), (Ladder.order, ["self"]),
            (Ladder.undo, ["self"]), (RuleLadder.is_full, ["self"]),
        ]:
            self.assertEqual(list(inspect.signature(call).parameters), parameters)
        self.assertEqual([vars(Ladder)["rows"].__class__, vars(RuleLadder)["rule"].__class__], [property, property])

    def test_arguments_by_name(self):
        for ladder in (Ladder(n=4), RuleLadder(n=4, rule=BRICKS)):
            self.assertEqual(ladder(post=0), [1, 0, 2, 3])
            self.assertIs(ladder.add_row(text=".-."), None)
            self.assertEqual(ladder.rows, ["-..", ".-."])

    def test_kinds(self):
        for ladder in (Ladder(4), RuleLadder(BRICKS, 4)):
            self.assertIs(ladder(0).__class__, list)
            self.assertIs(ladder.next_row().__class__, int)
            self.assertIs(ladder.rows.__class__, list)
            self.assertIs(len(ladder).__class__, int)
            self.assertIs(ladder.undo(), None)
        self.assertIs(ladder.is_full(), False)
        ladder(2)
        self.assertIs(ladder.is_full(), True)

    def test_new_lists(self):
        for ladder in (Ladder(5), RuleLadder(BRICKS, 5)):
            ladder(0)
            ladder.add_row(".-.-")
            check_new_lists(self, ladder.order)
            check_new_lists(self, lambda: ladder.rows)
            told = ladder.undo() or ladder(2)
            told.clear()
            self.assertEqual((ladder.rows, ladder.order()), (["-.-."], [1, 0, 3, 2, 4]))

    def test_the_rule(self):
        for texts in SAMPLES + GREAT:
            rule = Rule(texts)
            ladder = RuleLadder(rule, 7)
            ladder.next_row()
            self.assertEqual(ladder.rule, rule)
            self.assertIs(ladder.rule.__class__, Rule)
            ladder.rule.rows.append("changed")
            self.assertEqual((ladder.rule.rows, rule.rows), (texts, texts))


class DeedTests(unittest.TestCase):
    """All deeds by turns, against plain lists of rows."""

    def check_state(self, texts, n, ladder, rows):
        self.assertEqual(ladder.rows, rows)
        self.assertEqual(ladder.order(), plain_order(n, rows))
        self.assertEqual(len(ladder), "".join(rows).count("-"))
        if texts is not None:
            self.assertIs(ladder.is_full(), is_plain_full(texts, rows))
            self.assertEqual(ladder.rule.rows, texts)

    def check_deed(self, ladder, past, wanted, call, *args):
        """Check what a deed gives, or its error; returns True if it was done."""
        if isinstance(wanted, tuple):
            check_refused(self, *wanted, call, *args)
            return False
        told = call(*args)
        past.append(wanted)
        self.assertEqual(ladder.rows, wanted)
        return told

    def play(self, texts, n, deeds, seed):
        chance = random.Random(seed)
        ladder = made(texts, n)
        past = [["." * (n - 1)]]
        for _ in range(deeds):
            rows = past[-1]
            deed = chance.random()
            if deed < 0.5:
                post = chance.choice([chance.randrange(n), chance.randrange(n), -1, n])
                wanted = plain_call(texts, n, rows, post)
                told = self.check_deed(ladder, past, wanted, ladder, post)
                self.assertTrue(told is False or told == plain_order(n, past[-1]))
            elif deed < 0.65:
                wanted = rows + ["." * (n - 1)]
                self.assertEqual(self.check_deed(ladder, past, wanted, ladder.next_row), len(wanted))
            elif deed < 0.8:
                text = some_texts(chance, texts, n, len(rows))
                self.assertIn(self.check_deed(ladder, past, plain_add(texts, n, rows, text), ladder.add_row, text),
                              (None, False))
            elif len(past) > 1:
                self.assertIs(ladder.undo(), None)
                past.pop()
            else:
                check_refused(self, NothingToUndo, 0, ladder.undo)
            self.check_state(texts, n, ladder, past[-1])
        while len(past) > 1:
            ladder.undo()
            past.pop()
            self.check_state(texts, n, ladder, past[-1])
        check_refused(self, NothingToUndo, 0, ladder.undo)
        self.assertEqual(ladder, made(texts, n))

    def test_ladders(self):
        for seed in range(60):
            self.play(None, 1 + seed % 12, 60, seed)

    def test_ladders_of_rules(self):
        for seed, texts in enumerate((SAMPLES + GREAT) * 3):
            self.play(texts, 1 + seed % 13, 60, seed)

    def test_great_ladders(self):
        for texts in (None, ["-.", ".-"], GREAT[2]):
            for seed in range(3):
                self.play(texts, 40, 150, seed)

    def test_one_post(self):
        for ladder in (Ladder(1), RuleLadder(BRICKS, 1)):
            self.assertEqual((ladder.rows, ladder.order(), len(ladder)), ([""], [0], 0))
            self.assertEqual((ladder.next_row(), ladder.add_row(""), ladder.rows), (2, None, ["", "", ""]))
            check_refused(self, InvalidPost, 0, ladder, 0)
            check_refused(self, InvalidRow, ".", ladder.add_row, ".")
        self.assertIs(ladder.is_full(), True)

    def test_all_is_taken_back(self):
        for ladder in (Ladder(40), RuleLadder(BRICKS, 40)):
            for row in range(60):
                if row:
                    ladder.next_row()
                ladder(20 + row % 2)
            self.assertEqual((len(ladder), len(ladder.rows)), (60, 60))
            for more in range(119, 0, -1):
                ladder.undo()
                self.assertEqual((len(ladder), len(ladder.rows)), (more // 2, (more + 1) // 2))
            check_refused(self, NothingToUndo, 0, ladder.undo)
            self.assertEqual((ladder.rows, ladder.order()), (["." * 39], list(range(40))))

    def test_a_deed_taken_back_may_be_done_again(self):
        ladder = Ladder(4)
        ladder(0)
        ladder.add_row(".-.")
        check_refused(self, Taken, 1, ladder, 1)
        ladder.undo()
        check_refused(self, Taken, 0, ladder, 0)
        self.assertEqual(ladder(2), [1, 0, 3, 2])
        ladder.undo()
        ladder.undo()
        self.assertEqual(ladder(1), [0, 2, 1, 3])
        self.assertEqual(ladder.rows, [".-."])

    def test_two_ladders_go_their_own_ways(self):
        for texts in (None, ["-.", ".-"]):
            one, other = made(texts, 5), made(texts, 5)
            one(0)
            one.next_row()
            self.assertEqual((other.rows, len(other)), (["...."], 0))
            check_refused(self, NothingToUndo, 0, other.undo)

    def test_full_ladders(self):
        for texts in SAMPLES + GREAT:
            for n in (1, 2, 5, 12, 40):
                ladder = RuleLadder(Rule(texts), n)
                for row in range(2 * len(texts) + 1):
                    if row:
                        ladder.next_row()
                    for post in range(n - 1):
                        if plain_rung(texts, row, post):
                            self.assertIs(ladder.is_full(), False)
                            ladder(post)
                    self.assertIs(ladder.is_full(), True)
                if len(ladder):
                    # A rung that is missing in an earlier row is missing for ever.
                    rows = ladder.rows
                    other = RuleLadder(Rule(texts), n)
                    for text in rows[1:]:
                        other.add_row(text)
                    self.assertIs(other.is_full(), "-" not in rows[0])


class EqualTests(unittest.TestCase):
    def test_the_same_rows_in_another_way(self):
        for texts in (None, ["-.", ".-"]):
            one, other = made(texts, 5), made(texts, 5)
            self.assertTrue(one == other)
            one(0)
            self.assertTrue(one != other)
            one(2)
            other(2)
            self.assertFalse(one == other)
            other(0)
            self.assertTrue(one == other)
            one.next_row()
            self.assertTrue(one != other)
            one(1)
            other.add_row(".-..")
            self.assertTrue(one == other)
            other.undo()
            one.undo()
            self.assertFalse(one == other)
            one.undo()
            self.assertTrue(one == other)
            self.assertFalse(one != other)

    def test_all_pairs(self):
        kinds = []
        for n in (1, 2, 3, 4):
            for texts in (None, ["-.", ".-"], ["-.-.", ".-.-"], ["."], ["-."]):
                for rows in ([], ["." * (n - 1)], [("-" + "." * n)[:n - 1]]):
                    if not (rows and texts and isinstance(plain_add(texts, n, ["." * (n - 1)], rows[0]), tuple)):
                        kinds.append((texts, n, rows))
        for (one, other) in itertools.product(kinds, repeat=2):
            ladders = []
            for texts, n, rows in (one, other):
                ladders.append(made(texts, n))
                for text in rows:
                    ladders[-1].add_row(text)
            wanted = one[0] == other[0] and one[1] == other[1] and ladders[0].rows == ladders[1].rows
            self.assertIs(ladders[0] == ladders[1], wanted, (one, other))
            self.assertIs(ladders[0] != ladders[1], not wanted)

    def test_by_the_methods_themselves(self):
        plain, ruled = Ladder(4), RuleLadder(BRICKS, 4)
        self.assertIs(Ladder.__eq__(plain, ruled), False)
        self.assertIs(Ladder.__eq__(plain, Ladder(4)), True)
        self.assertIs(RuleLadder.__eq__(ruled, plain), False)
        self.assertIs(RuleLadder.__eq__(ruled, RuleLadder(BRICKS.inverse().inverse(), 4)), True)

    def test_other_things(self):
        for ladder in (Ladder(2), RuleLadder(BRICKS, 2)):
            for other in (None, 0, 2, "", ".", ["."], (2,), ladder.rows, BRICKS, {}):
                self.assertFalse(ladder == other)
                self.assertTrue(ladder != other)
                self.assertFalse(other == ladder)


class RefusalTests(unittest.TestCase):
    def check_nothing_changes(self, ladder, kind, value, call, *args):
        before = (ladder.rows, ladder.order(), len(ladder))
        check_refused(self, kind, value, call, *args)
        self.assertEqual((ladder.rows, ladder.order(), len(ladder)), before)

    def test_sizes(self):
        for n in (0, -1, -FAR):
            check_refused(self, InvalidSize, n, Ladder, n)
            check_refused(self, InvalidSize, n, RuleLadder, BRICKS, n)
            check_refused(self, InvalidSize, n, RuleLadder, n=n, rule=Rule(["."]))

    def test_posts(self):
        for n in (1, 2, 5, 40):
            for ladder in (Ladder(n), RuleLadder(BRICKS, n), RuleLadder(Rule(["."]), n)):
                for post in (-1, n - 1, n, n + 1, FAR, -FAR, HUGE):
                    self.check_nothing_changes(ladder, InvalidPost, post, ladder, post)
                check_refused(self, NothingToUndo, 0, ladder.undo)

    def test_taken_posts(self):
        for n in (2, 3, 5, 6):
            for post in range(n - 1):
                for other in range(n - 1):
                    ladder = Ladder(n)
                    ladder(post)
                    if abs(post - other) <= 1:
                        wanted = other + 1 if other < post else other
                        self.check_nothing_changes(ladder, Taken, wanted, ladder, other)
                    else:
                        ladder(other)
        # With rungs on both sides, the lesser of both ends is told.
        ladder = Ladder(6)
        ladder.add_row("-.-..")
        self.check_nothing_changes(ladder, Taken, 1, ladder, 1)
        ladder.next_row()
        self.assertEqual(ladder(1), [2, 0, 3, 1, 4, 5])

    def test_the_order_on_ladders_of_rules(self):
        ladder = RuleLadder(Rule(["-..", "..-"]), 6)
        self.check_nothing_changes(ladder, OffRule, 1, ladder, 1)
        ladder(0)
        self.check_nothing_changes(ladder, Taken, 1, ladder, 1)
        self.check_nothing_changes(ladder, Taken, 0, ladder, 0)
        self.check_nothing_changes(ladder, OffRule, 2, ladder, 2)
        self.check_nothing_changes(ladder, InvalidPost, 5, ladder, 5)
        self.check_nothing_changes(ladder, InvalidPost, 6, ladder, 6)
        # The next row is compared with the next row of the rule, not with the last one.
        self.check_nothing_changes(ladder, OffRule, 0, ladder.add_row, "-....")
        self.check_nothing_changes(ladder, OffRule, 0, ladder.add_row, "-.-..")
        self.check_nothing_changes(ladder, OffRule, 4, ladder.add_row, "..-.-")
        self.check_nothing_changes(ladder, InvalidRow, "-.--.", ladder.add_row, "-.--.")
        self.check_nothing_changes(ladder, InvalidRow, "-...", ladder.add_row, "-...")
        ladder.add_row("..-..")
        self.check_nothing_changes(ladder, OffRule, 2, ladder.add_row, "..-..")
        ladder.add_row("-..-.")
        self.check_nothing_changes(ladder, OffRule, 1, ladder.add_row, ".-...")
        self.assertEqual(ladder.rows, ["-....", "..-..", "-..-."])
        for _ in range(3):
            ladder.undo()
        check_refused(self, NothingToUndo, 0, ladder.undo)

    def test_rows(self):
        for n in (1, 2, 3, 4, 6):
            for ladder in (Ladder(n), RuleLadder(BRICKS, n)):
                for text in ["x" * (n - 1), "." * n, "." * (n + 30), "-" * n, "--" + "." * (n - 3), "-.x"[:n],
                             "." * (n - 1) + " ", "." * (n - 1) + "/", "_" * (n - 1), "=" * (n - 1)]:
                    if text != "" and (len(text) != n - 1 or set(text) - set("-.") or "--" in text):
                        self.check_nothing_changes(ladder, InvalidRow, text, ladder.add_row, text)
                check_refused(self, NothingToUndo, 0, ladder.undo)
        check_refused(self, InvalidRow, "", Ladder(2).add_row, "")

    def test_all_rows(self):
        for n in range(1, 7):
            for marks in itertools.product("-.", repeat=n - 1):
                text = "".join(marks)
                ladder = Ladder(n)
                if "--" in text:
                    check_refused(self, InvalidRow, text, ladder.add_row, text)
                else:
                    ladder.add_row(text)
                    self.assertEqual(ladder.rows, ["." * (n - 1), text])
        # The last character of a row of a ladder is not followed by the first one.
        self.assertNotIn("-.-", rows_of_width(3))
        self.assertIs(Ladder(4).add_row("-.-"), None)


if __name__ == "__main__":
    unittest.main()
