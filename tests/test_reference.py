"""Points 1 to 7 against the slow reference, over many texts and sequents, the same ones each time."""

import itertools
import random
import unittest

import helper
from helper import FORM, MATCHINGS, NETS, behind, last, nth, place, run, sequent, told


def expected_sequent(text):
    formulas = helper.reference_sequent(text)
    if formulas is None:
        return -1
    count = len(helper.leaves_of(formulas))
    return -5 if count > 24 else count


class Reading(unittest.TestCase):
    def compare(self, text):
        expected = expected_sequent(text)
        got = run(sequent(text), FORM)
        self.assertEqual(got[0], [expected], text)
        if expected >= 0:
            forms = [helper.reference_form(formula) for formula in helper.reference_sequent(text)]
            self.assertEqual(told(got[1]), ", ".join(forms), text)
        return expected

    def test_all_short_runs_of_tokens(self):
        for length in range(1, 6):
            for tokens in itertools.product(("a", "~", "*", "|", "(", ")", "-o"), repeat=length):
                self.compare("".join(tokens))

    def test_longer_runs_of_tokens(self):
        source = random.Random(1)
        pieces = ["a", "b", "c", "~", "(", ")", "*", "*", "|", "-o", " ", ","]
        found = [self.compare("".join(source.choices(pieces, k=source.randint(5, 12)))) for turn in range(20000)]
        self.assertGreater(len([count for count in found if count > 1]), 50)

    def test_grown_formulas_and_small_faults(self):
        source = random.Random(2)
        for turn in range(1500):
            parts = [source.choice(("a", "b1", "~c", "~~dd")) for leaf in range(source.randint(1, 27))]
            while len(parts) > source.randint(1, 4):
                second, first = parts.pop(), parts.pop()
                sign = source.choice(("*", "|", " -o "))
                before = source.choice(("", "", "~"))
                parts.append(source.choice((f"{before}({first}{sign}{second})", f"({first}){sign}({second})")))
                if source.random() < 0.5:
                    parts[-1] = f"({parts[-1]})"
                source.shuffle(parts)
            text = ", ".join(parts)
            if len(text) <= 1900:
                self.compare(text)
                at = source.randrange(len(text))
                self.compare(text[:at] + text[at + 1:])
                self.compare(text[:at] + source.choice("(~)*|o -1") + text[at:])

    def test_open_at_one_place(self):
        source = random.Random(3)
        found = []
        for turn in range(600):
            text, closing, depth = "", "", 0
            target = source.randint(97, 103)
            while depth < target:
                piece, end, more = source.choice((("(", ")", 1), ("~", "", 1), ("~(", ")", 2), ("~(", ")", 2)))
                if source.random() < 0.1:
                    piece, end, more = source.choice((("(b*", ")", 2), ("(b -o ", ")", 2), ("((b|c)*", ")", 2)))
                text, closing, depth = text + piece, end + closing, depth + more
            found.append(self.compare(text + "a" + closing))
        self.assertIn(-1, found)
        self.assertTrue([count for count in found if count > 0])


class Nets(unittest.TestCase):
    def compare(self, text):
        formulas = helper.reference_sequent(text)
        matchings = helper.reference_matchings(formulas)
        are_nets = [helper.reference_is_net(formulas, pairs) for pairs in matchings]
        links = [helper.links_text(pairs) for pairs in matchings]
        nets = [text for text, is_net in zip(links, are_nets) if is_net]
        got = run(sequent(text), MATCHINGS, NETS, *[nth(k) for k in range(len(nets) + 1)])
        self.assertEqual(got[1:3], [[len(matchings)], [len(nets)]], text)
        self.assertEqual([told(answer) for answer in got[3:]], nets + [-4], text)
        before = 0
        for at in range(len(matchings)):
            follower = nets[before + are_nets[at]:][:1]
            placed, following = run(sequent(text), place(links[at]), behind(links[at]))[1:]
            self.assertEqual(placed, [before] if are_nets[at] else [-4], text)
            self.assertEqual(told(following), follower[0] if follower else -4, text)
            before += are_nets[at]
        return len(nets)

    def test_small_sequents(self):
        source = random.Random(4)
        found = []
        for turn in range(500):
            names = source.choices("abc", k=source.randint(1, 5))
            tensors = len(names) - 1 if source.random() < 0.8 else source.randint(0, 2 * len(names))
            formulas = source.randint(1, len(names) + 1)
            found.append(self.compare(helper.grown_sequent(source, names, tensors, formulas)))
        self.assertGreater(len([count for count in found if count > 0]), 50)
        self.assertGreater(len([count for count in found if count > 1]), 20)

    def test_larger_sequents(self):
        source = random.Random(5)
        for turn in range(6):
            names = source.choice(("aaabbc", "aaaabc", "aabbccdd", "aaabbcdefg"))
            self.compare(helper.grown_sequent(source, names, len(names) - 1, source.randint(2, len(names) - 1)))

    def test_proofs_that_are_there(self):
        # A formula and its dual always have a net: each leaf with the one in the same place.
        source = random.Random(6)
        for turn in range(60):
            names = source.choices("abcd", k=source.randint(1, 3))
            formula = helper.grown_sequent(source, names, source.randint(0, 2 * len(names)), 1)
            self.assertGreater(last(sequent(f"{formula}, ~{formula}"), NETS)[0], 0, formula)

    def test_leaves_without_a_matching(self):
        for text in ("a", "a*b", "a, a", "a*~b, b", "a, ~a, a"):
            self.assertEqual(self.compare(text), 0)


if __name__ == "__main__":
    unittest.main()
