"""Points 2 and 3: the form, and how many matchings there are."""

import math
import unittest

from helper import FORM, MATCHINGS, last, run, sequent, told


def form(text):
    return told(last(sequent(text), FORM))


def matchings(text):
    return last(sequent(text), MATCHINGS)


class Form(unittest.TestCase):
    def test_at_the_beginning(self):
        self.assertEqual(run(FORM), [[5, 97, 44, 32, 126, 97]])

    def test_empty_sequent(self):
        self.assertEqual(run(sequent(""), FORM)[1], [0])

    def test_comma_and_blank_between_formulas(self):
        self.assertEqual(form("a,~b,c*d"), "a, ~b, c*d")
        self.assertEqual(form(" a "), "a")

    def test_the_first_one_is_put_in_brackets(self):
        self.assertEqual(form("(a*b)*c"), "(a*b)*c")
        self.assertEqual(form("(a*b)|c"), "(a*b)|c")
        self.assertEqual(form("(a|b)*c"), "(a|b)*c")
        self.assertEqual(form("(a|b)|c"), "(a|b)|c")

    def test_the_second_one_only_if_of_the_other_sign(self):
        self.assertEqual(form("a*(b*c)"), "a*b*c")
        self.assertEqual(form("a|(b|c)"), "a|b|c")
        self.assertEqual(form("a*(b|c)"), "a*(b|c)")
        self.assertEqual(form("a|(b*c)"), "a|(b*c)")

    def test_needless_brackets_go(self):
        self.assertEqual(form("((a))*((~(b)))"), "a*~b")
        self.assertEqual(form("((a*((b*((c|d))))))"), "a*b*(c|d)")

    def test_both_sides_nested(self):
        self.assertEqual(form("((a*b)|c)*((d|e)*(f*g))"), "((a*b)|c)*(d|e)*f*g")

    def test_read_again_it_is_the_same(self):
        for text in ("((a*b)|c)*((d|e)*(f*g)) -o ~(a|b), ~c", "a -o b -o (c -o d) -o e", "~(~(~a*b)|c)"):
            self.assertEqual(form(form(text)), form(text))

    def test_deepest(self):
        left = "(" * 22 + "a" + "*b)" * 22 + "*c"
        self.assertEqual(form(left), left)
        right = "a*(b|(" * 11 + "c*d" + "))" * 11
        self.assertEqual(form(right), right)


class Matchings(unittest.TestCase):
    def test_at_the_beginning(self):
        self.assertEqual(run(MATCHINGS), [[1]])

    def test_examples(self):
        self.assertEqual(matchings("a*a, ~a|~a"), [2])
        self.assertEqual(matchings("a|a, ~a|~a"), [2])
        self.assertEqual(matchings("a*b, ~a, ~b"), [1])

    def test_empty_sequent_has_one(self):
        self.assertEqual(matchings(""), [1])

    def test_leaves_without_their_opposites(self):
        for text in ("a", "a, a", "~a, ~a", "a, ~b", "a*b, ~a", "a, ~a, b", "a, a, ~a, ~b", "a, ~a, ~b, ~b"):
            self.assertEqual(matchings(text), [0], text)

    def test_names_are_told_apart(self):
        self.assertEqual(matchings("a, ~aa"), [0])
        self.assertEqual(matchings("a, aa, ~a, ~aa"), [1])
        self.assertEqual(matchings("a1, a2, ~a1, ~a2"), [1])

    def test_names_count_each_by_itself(self):
        self.assertEqual(matchings("a*a*a*b*b, ~a|~a|~a|~b|~b"), [12])

    def test_very_many(self):
        for count in range(1, 13):
            text = "*".join(["a"] * count) + ", " + "|".join(["~a"] * count)
            self.assertEqual(matchings(text), [math.factorial(count)])
        self.assertEqual(matchings(", ".join(["a*a*a*a*a*a*a*a*a*a*a*a", "*".join(["~a"] * 12)])), [479001600])

    def test_very_many_leaves_that_all_but_fit(self):
        self.assertEqual(matchings("*".join(["a"] * 12) + ", " + "|".join(["~a"] * 11) + ", ~b"), [0])


if __name__ == "__main__":
    unittest.main()
