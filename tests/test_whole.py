"""Tests of what the parts of the package tell together, with promises [1] to [3]."""

import importlib
import unittest

from helper import GREAT, HUGE, LATE, SAMPLES, SMALL, check_refused
from rungrepeats import errors
from rungrepeats.alike import first_unlike, idle_rows, same_round, shortest
from rungrepeats.ends import half_after, half_ring
from rungrepeats.far import comes_from, linked, out_rows, place_after, ring_length, rounds_to
from rungrepeats.forms import forms_of, home_for, judge_forms, linked_for, longest_for, single_for, sizes_for
from rungrepeats.lanes import inner_after
from rungrepeats.live import Ladder, RuleLadder
from rungrepeats.readings import read_forms, read_rule
from rungrepeats.rings import ring_of, rings_of
from rungrepeats.rules import Rule
from rungrepeats.seen import all_fitting, best_look, fitting
from rungrepeats.signs import rungs_at, rungs_of
from rungrepeats.texts import show_forms, show_rule
from rungrepeats.walks import round_of, walk_of

TEXTS = SMALL + GREAT + LATE + SAMPLES
RULES = [Rule(texts) for texts in TEXTS]

# The names of the interface, by modules.
NAMES = {
    "errors": "RungError InvalidRow InvalidSize InvalidPost InvalidNumber Taken OffRule NothingToUndo Unreadable",
    "rules": "Rule",
    "walks": "walk_of round_of partners meets",
    "lanes": "step_of lanes_of flow_of drift inner_after judge_lanes",
    "rings": "rings_of ring_of sizes_of home_of judge_rings",
    "forms": "forms_of sizes_for home_for longest_for number_for first_with single_for linked_for first_unlike_sizes "
             "judge_forms",
    "ends": "turns half_after half_ring judge_turns",
    "far": "place_after comes_from out_rows ring_length linked rounds_to legs judge_legs",
    "alike": "same_round first_unlike same_rounds may_exchange idle_rows shortest",
    "signs": "rungs_of rungs_at is_even even_for",
    "seen": "fitting all_fitting best_look",
    "live": "Ladder RuleLadder",
    "texts": "show_rule show_forms",
    "readings": "read_rule read_forms",
}


class NameTests(unittest.TestCase):
    def test_all_names_stand_in_their_modules(self):
        for module, names in NAMES.items():
            place = importlib.import_module(f"rungrepeats.{module}")
            for name in names.split():
                self.assertEqual(getattr(place, name).__module__, f"rungrepeats.{module}")
                self.assertEqual(getattr(place, name).__name__, name)

    def test_errors_of_all_modules_are_of_one_base(self):
        rule = Rule(["-."])
        for call in (
            lambda: Rule([]), lambda: Rule(["x"]), lambda: round_of(rule, 0), lambda: ring_of(rule, 3, 3),
            lambda: inner_after(rule, 0, -1), lambda: sizes_for(rule, -1), lambda: half_ring(rule, -1),
            lambda: place_after(rule, 1, 0, -1), lambda: rungs_of(rule, 0), lambda: all_fitting(0, 1, []),
            lambda: Ladder(0), lambda: Ladder(1)(0), lambda: Ladder(2).undo(), lambda: Ladder(2).add_row(""),
            lambda: RuleLadder(Rule(["."]), 2)(0), lambda: read_rule(""), lambda: read_forms(""),
        ):
            with self.assertRaises(errors.RungError) as caught:
                call()
            self.assertIsInstance(caught.exception, ValueError)
            self.assertEqual(caught.exception.__class__.__bases__, (errors.RungError,))
            self.assertTrue(hasattr(caught.exception, "value"))


class TogetherTests(unittest.TestCase):
    def test_written_and_read(self):
        for rule in RULES:
            again = read_rule(show_rule(rule))
            self.assertEqual(again, rule)
            told = read_forms(show_forms(forms_of(rule)))
            self.assertEqual(told, forms_of(again))
            self.assertIs(judge_forms(again, told), True)

    def test_a_full_ladder_is_a_round(self):
        for rule in RULES:
            for n in (1, 2, 7, 20):
                ladder = RuleLadder(rule, n)
                other = Ladder(n)
                for row in range(rule.height):
                    for post in range(n - 1):
                        if rule.has_rung(row, post):
                            self.assertEqual(ladder(post), other(post))
                    if row + 1 < rule.height:
                        ladder.next_row()
                        other.next_row()
                self.assertIs(ladder.is_full(), True)
                self.assertEqual(ladder.order(), round_of(rule, n))
                self.assertEqual(ladder.order(), [place_after(rule, n, post, 1) for post in range(n)])
                self.assertEqual(len(other), rungs_of(rule, n))
                self.assertEqual(len(ladder), sum(rungs_at(rule, n, post) for post in range(n)))

    def test_lengths_by_posts_and_by_sizes(self):
        for rule in RULES:
            for n in (1, 6, 25):
                lengths = [ring_length(rule, n, post) for post in range(n)]
                self.assertEqual(sizes_for(rule, n),
                                 [(length, lengths.count(length) // length) for length in sorted(set(lengths))])
                self.assertEqual(longest_for(rule, n), max(lengths))
                self.assertEqual([place_after(rule, n, post, home_for(rule, n)) for post in range(n)], list(range(n)))
                for ring in rings_of(rule, n):
                    self.assertEqual([rounds_to(rule, n, ring[0], post) for post in ring], list(range(len(ring))))

    def test_links_of_great_ladders(self):
        for rule in RULES:
            for one, other in [(0, 1), (2, 5), (11, 3)]:
                first, every, rests = linked_for(rule, one, other)
                for n in (first, first + 1, first + every, HUGE, HUGE - 1):
                    self.assertIs(linked(rule, n, one, other), (n - first) % every in rests)
            first, every, rests = single_for(rule)
            for n in (first, first + 1, 200, HUGE, HUGE - 1):
                if n >= first:
                    self.assertIs(ring_length(rule, n, n - 1) == n, (n - first) % every in rests)

    def test_far_from_one_end_and_from_both(self):
        for rule in RULES:
            for rounds in (3, 10 ** 20, 10 ** 27 + 1):
                self.assertEqual(place_after(rule, HUGE, HUGE // 2, rounds), inner_after(rule, HUGE // 2, rounds))
                for post in (0, 1, 10 ** 20, 10 ** 28 + 1):
                    self.assertEqual(place_after(rule, HUGE, post, rounds), half_after(rule, post, rounds))
                    there = half_after(rule, post, rounds)
                    self.assertEqual(comes_from(rule, HUGE, there, rounds), post)
            for post in (0, 5):
                ring = half_ring(rule, post)
                if ring is None:
                    self.assertGreater(ring_length(rule, HUGE, post), 10 ** 20)
                else:
                    self.assertEqual(ring_length(rule, HUGE, post), len(ring))

    def test_rows_and_rounds(self):
        for rule in RULES:
            for n in (5, 40, HUGE):
                for rows in range(2 * rule.height + 1):
                    self.assertEqual(out_rows(rule, n, 3, rows), walk_of(rule, n, 3, rows)[-1])

    def test_where_rules_differ(self):
        for at, one in enumerate(RULES):
            other = RULES[at - 1]
            told = first_unlike(one, other)
            self.assertIs(same_round(one, other), told is None)
            if told is not None:
                n, post = told
                look = (n, 1, post, place_after(one, n, post, 1))
                self.assertEqual(fitting([one, other, one], [look]), [0, 2])
                self.assertEqual(best_look([one, other], [(1, 0, 0), (n, 1, post)]), (n, 1, post))

    def test_fewer_rows_have_the_same_forms(self):
        for rule in RULES:
            idle = idle_rows(rule)
            rows = [row for index, row in enumerate(rule.rows) if index not in idle]
            if rows:
                self.assertIs(same_round(rule, Rule(rows)), True)
                self.assertEqual(forms_of(Rule(rows)), forms_of(rule))
            if rule.height <= 3:
                less = shortest(rule)
                self.assertLessEqual(less.height, rule.height)
                self.assertEqual(forms_of(less), forms_of(rule))
                self.assertEqual(shortest(less), less)

    def test_rules_that_fit_what_a_rule_does(self):
        for rule in RULES:
            if rule.width <= 3 and rule.height <= 3:
                looks = [(n, 1, post, place_after(rule, n, post, 1)) for n, post in [(2, 0), (5, 2), (6, 5), (8, 7)]]
                found = all_fitting(rule.width, rule.height, looks)
                self.assertIn(rule, found)
                for other in found:
                    self.assertEqual([walk_of(other, n, post, other.height)[-1] for n, _, post, _ in looks],
                                     [end for _, _, _, end in looks])

    def test_a_refused_call_changes_nothing(self):
        rule = Rule(["-.", ".-"])
        looks = [(3, 1, 0, 2), (3, 1, 0, 3)]
        check_refused(self, errors.InvalidPost, 3, fitting, [rule], looks)
        self.assertEqual((looks, rule.rows), ([(3, 1, 0, 2), (3, 1, 0, 3)], ["-.", ".-"]))


if __name__ == "__main__":
    unittest.main()
