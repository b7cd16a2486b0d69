"""Whole lines of calls: against the slow reference, call by call, and the longest work that a line can ask for."""

import random
import time
import unittest

import helper
from helper import (FORCED, FORM, MATCHINGS, NETS, PROVABLE, answers, behind, linked, nth, opened, place, run, sequent,
                    shut, splits, told)

NEARLY = "a*a*a*a*a*b*b*c*c*d*d*e, ~a|~a|~a|~a|~a|~b|~b|~c|~c|~d|~d|~e"
# Far more than any line here needs; a search that tries all ways does not end within it.
REASONABLE = 60


def some_sequent(source):
    if source.random() < 0.15:
        return source.choice(("", " ", "a", "a, ", "a|b*c", "a, ~a", "a*b", "a|~a", ", ".join(["a"] * 20),
                              "b|c, " + ", ".join(["a"] * 19), "*".join(["a"] * 25), "(a|~a)*(b|~b)",
                              "a*b*c*d*e*f*g, ~a|~b|~c|~d|~e|~f|~g"))
    names = source.choices("abc", k=source.randint(1, 5))
    if source.random() < 0.2:
        names = "a" * len(names)
    tensors = len(names) - 1 if source.random() < 0.8 else source.randint(0, 2 * len(names))
    return helper.grown_sequent(source, names, tensors, source.randint(1, len(names) + 1))


def some_number(source):
    if source.random() < 0.1:
        return source.choice((-1, -10 ** 18, 10 ** 18, 11, 12, 20))
    return source.randint(0, 5)


def some_links(source, desk):
    matchings = helper.reference_matchings(desk.formulas)
    if not matchings or source.random() < 0.1:
        return source.choice(("", "0-1", "1-0", "0-1 2-3", "0-1 2-3 "))
    return helper.links_text(source.choice(matchings))


def some_call(source, desk):
    kind = source.choice((0, 0, 1, 2, 3, 4, 5, 6, 7, 8, 9, 9, 10, 10, 10, 11, 11, 11, 12, 12, 12))
    if kind == 0:
        return sequent(some_sequent(source))
    if kind == 5:
        return place(some_links(source, desk))
    if kind == 6:
        return behind(some_links(source, desk))
    if kind == 7:
        return linked(some_number(source), some_number(source))
    return [kind] + [some_number(source)] * (kind in (4, 10, 11, 12))


class AgainstTheReference(unittest.TestCase):
    def test_lines_of_all_calls(self):
        source = random.Random(12)
        seen = {}
        for turn in range(1000):
            desk = helper.ReferenceDesk()
            calls, expected = [], []
            for step in range(source.randint(1, 40)):
                call = some_call(source, desk)
                calls.append(call)
                expected.append(desk.answer(call))
                seen.setdefault(call[0], set()).add(expected[-1][0])
            for call, got, right in zip(calls, run(*calls), expected):
                self.assertEqual(got, right, (call, calls))
        refusals = {kind: {number for number in numbers if number < 0} for kind, numbers in seen.items()}
        self.assertEqual(refusals, {0: {-1, -5}, 1: set(), 2: set(), 3: set(), 4: {-2, -4}, 5: {-1, -4}, 6: {-1, -4},
                                    7: {-2}, 8: {-4}, 9: {-8}, 10: {-4, -8}, 11: {-4}, 12: {-4, -5}})
        self.assertEqual(seen[9], {0, 1, -8})
        self.assertTrue({0, 1, 2} <= seen[8] & seen[10] & seen[7])

    def test_splits_of_every_formula(self):
        source = random.Random(13)
        found = set()
        for turn in range(150):
            names = source.choices("ab", k=source.randint(2, 6))
            text = helper.grown_sequent(source, names, len(names) - 1, source.randint(2, len(names) + 1))
            formulas = tuple(helper.reference_sequent(text))
            for place_of, formula in enumerate(formulas):
                got = run(sequent(text), splits(place_of))[1]
                if formula[0] == "*":
                    right = helper.reference_splits(formulas, place_of)
                    self.assertEqual(got, [len(right)] + right, (text, place_of))
                    found.add(len(right))
                else:
                    self.assertEqual(got, [-4], (text, place_of))
        self.assertTrue({0, 1, 2, 3, 4} <= found, found)

    def test_linked_and_forced(self):
        source = random.Random(14)
        forced_counts = set()
        for turn in range(150):
            names = source.choices("abc", k=source.randint(1, 5))
            text = helper.grown_sequent(source, names, len(names) - 1, source.randint(1, len(names) + 1))
            desk = helper.ReferenceDesk()
            desk.answer(sequent(text))
            count = 2 * len(names)
            calls = [FORCED] + [linked(i, j) for i in range(count) for j in range(count)]
            self.assertEqual(run(sequent(text), *calls)[1:], [desk.answer(call) for call in calls], text)
            if len(helper.reference_nets(desk.formulas)) > 1:
                forced_counts.add(desk.forced()[0])
        self.assertTrue({0, 1} <= forced_counts, forced_counts)


class LongestWork(unittest.TestCase):
    def timed(self, calls):
        self.assertLessEqual(len(calls), 200)
        line = [number for call in calls for number in call]
        self.assertLessEqual(len(line), 17000)
        kept = list(line)
        begun = time.monotonic()
        first = answers(line)
        self.assertLess(time.monotonic() - begun, REASONABLE)
        self.assertEqual(line, kept)
        self.assertEqual(answers(line), first)
        self.assertEqual(line, kept)
        return helper.taken_apart(first)

    def test_nets_of_ever_new_sequents(self):
        got = self.timed([sequent(NEARLY), NETS] * 100)
        self.assertEqual(got, [[24], [960]] * 100)

    def test_nets_with_ever_another_form(self):
        got = self.timed([sequent(NEARLY)] + [shut(0), NETS, opened(0), FORCED] * 49 + [NETS])
        self.assertEqual(got[1:], [[1], [960], [2], [1, 11, 23]] * 49 + [[960]])

    def test_all_calls_about_nets(self):
        last_links = "0-16 1-15 2-14 3-13 4-12 5-18 6-17 7-20 8-19 9-22 10-21 11-23"
        got = self.timed([sequent(NEARLY)] + [nth(959), place(last_links), behind(last_links), linked(4, 12), FORCED,
                                              MATCHINGS] * 33)
        self.assertEqual([told(answer) for answer in got[1::6]], [last_links] * 33)
        self.assertEqual(got[2:7], [[959], [-4], [192], [1, 11, 23], [960]])
        self.assertEqual(got[1:], got[1:7] * 33)

    def test_matchings_that_are_not_tried(self):
        text = "*".join(["a"] * 12) + ", " + "|".join(["~a"] * 12)
        got = self.timed([sequent(text)] + [MATCHINGS, NETS, FORCED, linked(0, 12), PROVABLE, splits(0)] * 33)
        self.assertEqual(got[1:], [[479001600], [-7], [-7], [-7], [-8], [-8]] * 33)

    def test_leaves_without_a_matching(self):
        text = "*".join(["a"] * 12) + ", " + "|".join(["~a"] * 11) + ", ~b"
        got = self.timed([sequent(text), NETS, FORCED, nth(0), linked(0, 12)] * 40)
        self.assertEqual(got, [[24], [0], [-4], [-4], [0]] * 40)

    def test_provable_over_many_formulas(self):
        texts = {
            "a*~a, a*~a, a*~a, a*~a, a*~a, a, ~a": 1,
            "a*~a, a*~a, a*~a, a*~a, b*~b, a, ~a": 0,
            "a*a, a*~a, ~a|~a|((~b*b)*a), ~a, ~a*a": 0,
            "a*~a, ~a, (~b*b)*a, a*a, ~a, ~a*a, ~a": 0,
            ", ".join(["a", "~a"] * 6): 0,
            "(a|~a)*(a|~a)*(a|~a)*(a|~a)*(a|~a)*(a|~a)": 1,
            "a*a*a*a*a*a, ~a, ~a, ~a, ~a, ~a, ~a": 1,
        }
        for text, right in texts.items():
            self.assertEqual(self.timed([sequent(text), PROVABLE] * 100), [[12], [right]] * 100, text)

    def test_provable_over_ever_other_names(self):
        calls = []
        for turn in range(100):
            one, other = f"n{turn}", f"m{turn}"
            calls += [sequent("a*~a,~a,(~b*b)*a,a*a,~a,~a*a,~a".replace("a", one).replace("b", other)), PROVABLE]
        self.assertEqual(self.timed(calls), [[12], [0]] * 100)

    def test_splits_over_many_formulas(self):
        got = self.timed([sequent("a*~a, a*~a, a*~a, a*~a, a*~a, a, ~a")] + [splits(k % 5) for k in range(199)])
        self.assertEqual(got[1:], [[16, 5, 4, 4, 3, 4, 3, 3, 2, 4, 3, 3, 2, 3, 2, 2, 1]] * 199)
        got = self.timed([sequent("a*~a, " + ", ".join(["a", "~a"] * 5)), splits(0)] * 100)
        self.assertEqual(got, [[12], [0]] * 100)
        got = self.timed([sequent("a*a, " + ", ".join(["~a"] * 10)), splits(0), PROVABLE, FORM] * 50)
        self.assertEqual(got[:3], [[12], [0], [0]])
        self.assertEqual(got, got[:4] * 50)


if __name__ == "__main__":
    unittest.main()
