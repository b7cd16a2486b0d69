"""Points 10 and 11: provable and splits."""

import itertools
import random
import unittest

import helper
from helper import FORM, NETS, PROVABLE, last, run, sequent, splits, told

# 12 leaves and 13, with one name or with many.
TWELVE = "a*b*c*d*e*f, ~a, ~b, ~c, ~d, ~e, ~f"
THIRTEEN = "a*b*c*d*e*f, ~a, ~b, ~c, ~d, ~e, ~f, g"
# A tensor whose two formulas want an atom each; between them stand tensors that can be given to both sides.
FREE = "a*~a, a*~a, a*~a, a, ~a"


def provable(text):
    return last(sequent(text), PROVABLE)


def splits_of(text, k):
    return last(sequent(text), splits(k))


class Provable(unittest.TestCase):
    def test_at_the_beginning(self):
        self.assertEqual(run(PROVABLE), [[1]])

    def test_examples(self):
        self.assertEqual(provable("a*a, ~a|~a"), [1])
        self.assertEqual(provable("a|a, ~a|~a"), [0])
        self.assertEqual(provable("a*b, ~a, ~b"), [1])

    def test_no_formulas(self):
        self.assertEqual(provable(""), [0])
        self.assertEqual(provable("   "), [0])

    def test_an_atom_and_its_dual(self):
        self.assertEqual(provable("a, ~a"), [1])
        self.assertEqual(provable("~a, a"), [1])
        self.assertEqual(provable("z12, ~z12"), [1])

    def test_two_formulas_that_are_not(self):
        for text in ("a, a", "~a, ~a", "a, ~b", "a, b", "~a, b", "a, ~aa", "a*~a, a", "a*b, ~a*~b", "a|b, ~a|~b"):
            self.assertEqual(provable(text), [0], text)

    def test_a_formula_and_its_dual_that_are_no_atoms(self):
        for text in ("a*b, ~a|~b", "a|b, ~a*~b", "(a|b)*c, ~((a|b)*c)", "a*b*c, ~a|~b|~c"):
            self.assertEqual(provable(text), [1], text)

    def test_one_formula_alone(self):
        expected = {"a": 0, "~a": 0, "a|~a": 1, "~a|a": 1, "a*~a": 0, "a|a": 0, "a|~b": 0, "(a|~a)*(b|~b)": 1,
                    "(a|~a)|(b|~b)": 0, "a*b -o b*a": 1, "a|b -o a*b": 0, "a -o b": 0, "(a -o b) -o (a -o b)": 1,
                    "a*(a -o b) -o b": 1, "(a -o b)*(b -o c) -o a -o c": 1, "(a|~a)*a": 0, "a|(~a*a)": 0}
        for text, answer in expected.items():
            self.assertEqual(provable(text), [answer], text)

    def test_atoms_alone(self):
        for text in ("a, ~a, a, ~a", "a, ~a, b, ~b", "a, ~a, a", "a, a, a", ", ".join(["a", "~a"] * 6),
                     ", ".join(["a"] * 12), ", ".join(["~a"] * 12)):
            self.assertEqual(provable(text), [0], text)

    def test_many_tensors(self):
        self.assertEqual(provable("a*~a, a*~a, a*~a, a*~a, a*~a, a, ~a"), [1])
        self.assertEqual(provable("~a, a*~a, a*~a, a*~a, a*~a, a*~a, a"), [1])
        self.assertEqual(provable("a*~a, a*~a, a*~a, a*~a, a*~a, a*~a"), [0])
        self.assertEqual(provable("a*~b, b*~c, c*~d, d*~e, e*~f, ~a, f"), [1])
        self.assertEqual(provable("a*~b, b*~a, c*~d, d*~e, e*~f, ~c, f"), [0])
        self.assertEqual(provable("a*~a, a*~a, a*~a, a*~a, b*~b, ~a, a"), [0])

    def test_the_tensor_that_parts_first_need_not_be_the_first_one(self):
        self.assertEqual(provable("(a|b)*c, ~a*~b, ~c"), [1])
        self.assertEqual(provable("~a*~b, (a|b)*c, ~c"), [1])
        self.assertEqual(provable("~c, ~a*~b, (a|b)*c"), [1])
        self.assertEqual(provable("(a|b)*(c|d), ~a*~b, ~c*~d"), [1])
        self.assertEqual(provable("(a|b)*(c|d), ~a*~c, ~b*~d"), [0])

    def test_many_pars(self):
        self.assertEqual(provable("a*b*c*d*e*f, ~a|~b|~c|~d|~e|~f"), [1])
        self.assertEqual(provable("((((~a|~b)|~c)|~d)|~e)|~f, a*(b*(c*(d*(e*f))))"), [1])
        self.assertEqual(provable("(a*b*c*d*e*f)|~a|~b|~c|~d|~e|~f"), [1])
        self.assertEqual(provable("a|b|c|d|e|f, ~a|~b|~c|~d|~e|~f"), [0])
        self.assertEqual(provable("a|~a|a|~a|a|~a|a|~a|a|~a|a|~a"), [0])
        self.assertEqual(provable("(a|~a)*(b|~b)*(c|~c)*(d|~d)*(e|~e)*(f|~f)"), [1])
        self.assertEqual(provable("(a|b)*(~a|~b)*(c|~c)*(d|~d)*(e|~e)*(f|~f)"), [0])

    def test_counts_alone_do_not_make_a_proof(self):
        for text in ("a*~a, b, ~b", "(a|b)*~a, ~b", "(a|b)*c, ~a*~b*~c, d, ~d"):
            self.assertEqual(provable(text), [0], text)

    def test_number_of_leaves(self):
        self.assertEqual(provable(TWELVE), [1])
        self.assertEqual(provable(THIRTEEN), [-8])
        self.assertEqual(provable("*".join(["a"] * 13)), [-8])
        self.assertEqual(provable("*".join(["a"] * 12)), [0])
        self.assertEqual(provable("a*b*c*d*e*f*g, ~a|~b|~c|~d|~e|~f|~g"), [-8])
        self.assertEqual(provable("*".join(["a"] * 12) + ", " + "|".join(["~a"] * 12)), [-8])

    def test_many_formulas_are_not_many_leaves(self):
        self.assertEqual(provable(", ".join(["a"] * 12)), [0])
        self.assertEqual(provable(", ".join(["a"] * 13)), [-8])
        self.assertEqual(provable(", ".join(["a"] * 20)), [-8])

    def test_order_of_the_formulas_makes_no_difference(self):
        for text in ("a*b, ~a, ~b*c, ~c", "(a|b)*c, ~a*~b, ~c", "a*~a, a*~a, a, ~a", "(a|b)*~a, ~b, c*~c, c, ~c"):
            found = {tuple(provable(", ".join(order))) for order in itertools.permutations(text.split(", "))}
            self.assertEqual(len(found), 1, text)

    def test_a_net_just_where_it_is_provable(self):
        source = random.Random(11)
        found = []
        for turn in range(1200):
            names = source.choices("abc", k=source.randint(1, 6))
            if source.random() < 0.2:
                names = "a" * len(names)
            tensors = len(names) - 1 if source.random() < 0.9 else source.randint(0, 2 * len(names))
            text = helper.grown_sequent(source, names, tensors, source.randint(1, len(names) + 1))
            nets, answer = run(sequent(text), NETS, PROVABLE)[1:]
            self.assertEqual(answer, [1 if nets[0] > 0 else 0], text)
            found.append(answer[0])
        self.assertGreater(sum(found), 200)
        self.assertGreater(len(found) - sum(found), 200)

    def test_a_net_just_where_it_is_provable_in_all_small_sequents(self):
        # All formulas of up to 3 atoms over one name, and all pairs of them.
        atoms = ["a", "~a"]
        twos = [f"({one}{sign}{other})" for one in atoms for sign in "*|" for other in atoms]
        threes = [f"({one}{sign}{other})" for one in atoms for sign in "*|" for other in twos]
        threes += [f"({other}{sign}{one})" for one in atoms for sign in "*|" for other in twos]
        for pair in itertools.combinations_with_replacement(atoms + twos + threes, 2):
            text = ", ".join(pair)
            nets, answer = run(sequent(text), NETS, PROVABLE)[1:]
            self.assertEqual(answer, [1 if nets[0] > 0 else 0], text)


class Splits(unittest.TestCase):
    def test_example(self):
        self.assertEqual(splits_of("a*b, ~a, ~b", 0), [1, 1])

    def test_no_such_formula(self):
        for text, count in (("a*b, ~a, ~b", 3), ("a*b", 1), ("", 0), ("(a|~a)*(b|~b)", 1)):
            for wrong in (-1, -count - 1, count, count + 1, 10 ** 18, -10 ** 18):
                self.assertEqual(splits_of(text, wrong), [-4], (text, wrong))
        # From the end on it is no number of a formula either.
        self.assertEqual(run(sequent("~a, ~b, a*b"), splits(-1), splits(2))[1:], [[-4], [1, 1]])

    def test_formulas_that_are_no_tensors(self):
        self.assertEqual(run(splits(0), splits(1)), [[-4], [-4]])
        got = run(sequent("a*b, ~a, ~b|c"), splits(1), splits(2), splits(0))
        self.assertEqual(got[1:], [[-4], [-4], [0]])
        self.assertEqual(splits_of("(a*b)|c", 0), [-4])
        self.assertEqual(splits_of("a -o b", 0), [-4])
        self.assertEqual(splits_of("~(a|b), a, b", 0), [1, 1])

    def test_refusals_in_their_order(self):
        got = run(sequent(THIRTEEN), splits(-1), splits(1), splits(8), splits(10 ** 18), splits(0))
        self.assertEqual(got[1:], [[-4], [-4], [-4], [-4], [-8]])
        self.assertEqual(run(sequent("a|b|c|d|e|f|g, a|b|c|d|e|f|g"), splits(0), splits(2))[1:], [[-4], [-4]])

    def test_number_of_leaves(self):
        self.assertEqual(splits_of(TWELVE, 0), [1, 1])
        self.assertEqual(splits_of(THIRTEEN, 0), [-8])
        self.assertEqual(splits_of("*".join(["a"] * 12), 0), [0])
        self.assertEqual(splits_of("*".join(["a"] * 13), 0), [-8])

    def test_no_split(self):
        for text in ("a*b", "a*~a", "a*b, ~a", "a*b, ~b, ~b", "a*~a, a", "a*b, ~a, ~b, c", "(a|~a)*b"):
            self.assertEqual(splits_of(text, 0), [0], text)

    def test_provable_without_a_split(self):
        self.assertEqual(run(sequent("a*b, ~a|~b"), PROVABLE, splits(0))[1:], [[1], [0]])
        got = run(sequent("(a|b)*c, ~a*~b, ~c"), PROVABLE, splits(0), splits(1))
        self.assertEqual(got[1:], [[1], [1, 1], [0]])

    def test_the_only_formula(self):
        self.assertEqual(splits_of("(a|~a)*(b|~b)", 0), [1, 0])
        self.assertEqual(splits_of("(a|~a)*(a|a)", 0), [0])
        self.assertEqual(splits_of("a*b", 0), [0])

    def test_first_middle_and_last(self):
        self.assertEqual(splits_of("a*b, ~a, ~b*c, ~c", 0), [1, 1])
        self.assertEqual(splits_of("~a, a*b, ~b*c, ~c", 1), [1, 1])
        self.assertEqual(splits_of("~a, ~b*c, ~c, a*b", 3), [1, 1])
        self.assertEqual(splits_of("b*a, ~a, ~b*c, ~c", 0), [1, 2])
        self.assertEqual(splits_of("~a, ~b*c, b*a, ~c", 2), [1, 2])
        self.assertEqual(splits_of("~a, ~b*c, ~c, b*a", 3), [1, 2])
        self.assertEqual(splits_of("~a, ~b*c, ~c, b*a", 1), [1, 2])

    def test_all_to_one_side(self):
        self.assertEqual(splits_of("(a|~a)*b, ~b", 0), [1, 0])
        self.assertEqual(splits_of("b*(a|~a), ~b", 0), [1, 1])
        self.assertEqual(splits_of("b*(a|~a), ~b*c, ~c", 0), [1, 2])
        self.assertEqual(splits_of("(a|~a)*b, ~b*c, ~c", 0), [1, 0])

    def test_order(self):
        # ~a goes to A alone, or to B alone while the other two go to A.
        self.assertEqual(splits_of("a*a, ~a, ~a*b, ~b", 0), [2, 1, 2])
        self.assertEqual(splits_of("a*a, ~b, ~a*b, ~a", 0), [2, 2, 1])
        self.assertEqual(splits_of("a*a, ~a*b, ~a, ~b", 0), [2, 2, 1])
        self.assertEqual(splits_of("~a, a*a, ~a*b, ~b", 1), [2, 1, 2])
        self.assertEqual(splits_of("~b, ~a*b, ~a, a*a", 3), [2, 2, 1])

    def test_order_by_the_first_that_is_given_differently(self):
        self.assertEqual(splits_of(FREE, 0), [4, 3, 2, 2, 1])
        # Here the tensor that both sides may have stands behind the one that brings another formula along.
        self.assertEqual(splits_of("a*~a, a*~b, b*~a, a*~a, a, ~a", 0), [4, 4, 3, 2, 1])
        self.assertEqual(splits_of("a*~a, a*~a, a*~b, b*~a, a, ~a", 0), [4, 4, 2, 3, 1])

    def test_the_same_formula_several_times(self):
        self.assertEqual(splits_of("a*a, ~a, ~a", 0), [2, 1, 1])
        self.assertEqual(splits_of("a*a*a, ~a, ~a, ~a", 0), [3, 1, 1, 1])
        self.assertEqual(splits_of("(a*a)*a, ~a, ~a, ~a", 0), [3, 2, 2, 2])
        self.assertEqual(splits_of("(a*a)*a*a, ~a, ~a, ~a, ~a", 0), [6] + [2] * 6)
        text = "a*~a, a*~a, a*~a, a*~a, a*~a, a, ~a"
        self.assertEqual(splits_of(text, 0), [16, 5, 4, 4, 3, 4, 3, 3, 2, 4, 3, 3, 2, 3, 2, 2, 1])
        self.assertEqual(splits_of(text, 4), splits_of(text, 0))
        self.assertEqual(splits_of("(a*a*a)*a*a*a, ~a, ~a, ~a, ~a, ~a, ~a", 0), [20] + [3] * 20)

    def test_only_the_outer_tensor_is_split(self):
        self.assertEqual(splits_of("a*b*c, ~a, ~b, ~c", 0), [1, 1])
        self.assertEqual(splits_of("(a*b)*c, ~a, ~b, ~c", 0), [1, 2])

    def test_others_that_are_pars(self):
        self.assertEqual(splits_of("a*c, ~a, ~c|d, ~d*e, ~e", 0), [0])
        self.assertEqual(splits_of("(a*b)*c, ~a|~b, ~c", 0), [1, 1])
        self.assertEqual(splits_of("c*a*b, ~c, ~a|~b", 0), [1, 1])
        self.assertEqual(splits_of("c*a*b, ~c|~a, ~b", 0), [0])

    def test_most_others(self):
        self.assertEqual(splits_of("a*~a, " + ", ".join(["a", "~a"] * 5), 0), [0])
        self.assertEqual(splits_of(", ".join(["a"] * 10) + ", a*a", 10), [0])

    def test_a_split_just_where_some_tensor_can_be_taken_last(self):
        # Without pars at the top, a sequent of more than two leaves is provable just if some tensor has a split.
        for text in ("a*~a, b, ~b", FREE, "(a|b)*c, ~a*~b, ~c", "(a|b)*(c|d), ~a*~c, ~b*~d", TWELVE,
                     "a*b, ~a*c, ~b, ~c"):
            formulas = text.split(", ")
            got = [last(sequent(text), splits(k)) for k in range(len(formulas)) if "*" in formulas[k]]
            self.assertEqual(provable(text), [1 if any(answer[0] > 0 for answer in got) else 0], text)

    def test_nothing_is_changed(self):
        got = run(sequent(FREE), splits(0), PROVABLE, FORM, splits(0), splits(5), FORM)
        self.assertEqual([told(got[3]), told(got[6])], [FREE, FREE])
        self.assertEqual(got[1], got[4])


if __name__ == "__main__":
    unittest.main()
