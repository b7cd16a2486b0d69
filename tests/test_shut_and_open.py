"""Points 12 and 13: shut and open, and what the other calls answer behind them."""

import unittest

from helper import (FORCED, FORM, MATCHINGS, NETS, PROVABLE, behind, last, linked, nth, opened, place, run, sequent,
                    shut, splits, told)

FAR = (10 ** 18, -10 ** 18)


def form_behind(text, *calls):
    return told(last(sequent(text), *calls, FORM))


class Shut(unittest.TestCase):
    def test_at_the_beginning(self):
        got = run(shut(0), FORM, shut(0))
        self.assertEqual([got[0], told(got[1]), got[2]], [[1], "a|~a", [-4]])

    def test_in_their_place(self):
        self.assertEqual(form_behind("a, b, c, d", shut(0)), "a|b, c, d")
        self.assertEqual(form_behind("a, b, c, d", shut(1)), "a, b|c, d")
        self.assertEqual(form_behind("a, b, c, d", shut(2)), "a, b, c|d")

    def test_first_and_second(self):
        self.assertEqual(form_behind("a*b, c", shut(0)), "(a*b)|c")
        self.assertEqual(form_behind("a, b*c", shut(0)), "a|(b*c)")
        self.assertEqual(form_behind("a|b, c", shut(0)), "(a|b)|c")
        self.assertEqual(form_behind("a, b|c", shut(0)), "a|b|c")
        self.assertEqual(form_behind("a*b, c|d, e", shut(0)), "(a*b)|c|d, e")
        self.assertEqual(form_behind("~a, ~b", shut(0)), "~a|~b")

    def test_how_many_formulas(self):
        self.assertEqual(run(sequent("a, b, c, d"), shut(2), shut(0), shut(0), shut(0))[1:], [[3], [2], [1], [-4]])

    def test_no_such_formulas(self):
        for text, count in (("a, b, c", 3), ("a, b", 2), ("a", 1), ("a|b", 1), ("a*b", 1), ("", 0)):
            for wrong in (-2, -1, count - 1, count, count + 1) + FAR:
                got = run(sequent(text), shut(wrong), FORM)
                self.assertEqual([got[1], told(got[2])], [[-4], text], (text, wrong))

    def test_twenty_formulas(self):
        names = [f"n{number}" for number in range(20)]
        got = run(sequent(", ".join(names)), *[shut(0)] * 20, FORM)
        self.assertEqual(got[1:-1], [[count] for count in range(19, 0, -1)] + [[-4]])
        self.assertEqual(told(got[-1]), "(" * 18 + "n0|n1)" + "".join(f"|{name})" for name in names[2:19]) + "|n19")
        got = run(sequent(", ".join(names)), *[shut(place) for place in range(18, -1, -1)], FORM)
        self.assertEqual(told(got[-1]), "|".join(names))

    def test_twenty_four_leaves(self):
        text = "*".join(["a"] * 12) + ", " + "|".join(["~a"] * 12)
        got = run(sequent(text), shut(0), MATCHINGS, NETS, FORM)
        self.assertEqual(got[1:4], [[1], [479001600], [-7]])
        self.assertEqual(told(got[4]), "(" + text.replace(", ", ")|"))

    def test_what_the_others_answer_behind_it(self):
        got = run(sequent("a*b, ~a, ~b"), splits(0), shut(1), FORM, MATCHINGS, NETS, PROVABLE, splits(0), splits(1),
                  splits(2), nth(0), place("0-2 1-3"), behind("0-2 1-3"), linked(0, 2), linked(0, 4), FORCED)
        self.assertEqual(got[1:3], [[1, 1], [2]])
        self.assertEqual(told(got[3]), "a*b, ~a|~b")
        self.assertEqual(got[4:10], [[1], [1], [1], [0], [-4], [-4]])
        self.assertEqual(told(got[10]), "0-2 1-3")
        self.assertEqual(got[11:], [[0], [-4], [1], [-2], [2, 0, 2, 1, 3]])

    def test_a_tensor_that_is_shut_in(self):
        got = run(sequent("~a, a*b, ~b"), splits(1), shut(0), splits(0), splits(1), PROVABLE, shut(0), PROVABLE, NETS)
        self.assertEqual(got[1:], [[1, 1], [2], [-4], [-4], [1], [1], [1], [1]])

    def test_splits_with_a_par_that_was_made(self):
        got = run(sequent("(a*b)*c, ~a, ~b, ~c"), splits(0), shut(1), splits(0), shut(1), splits(0), PROVABLE)
        self.assertEqual(got[1:], [[1, 2], [3], [1, 1], [2], [0], [1]])

    def test_no_net_stays_no_net(self):
        got = run(sequent("a, ~a, b, ~b"), NETS, PROVABLE, shut(0), shut(1), NETS, PROVABLE, FORCED)
        self.assertEqual(got[1:], [[0], [0], [3], [2], [0], [0], [-4]])


class Open(unittest.TestCase):
    def test_a_par(self):
        got = run(sequent("a|~a"), opened(0), FORM, opened(0), opened(1))
        self.assertEqual([got[1], told(got[2]), got[3], got[4]], [[2], "a, ~a", [-4], [-4]])

    def test_in_its_place(self):
        self.assertEqual(form_behind("a|b, c, d", opened(0)), "a, b, c, d")
        self.assertEqual(form_behind("a, b|c, d", opened(1)), "a, b, c, d")
        self.assertEqual(form_behind("a, b, c|d", opened(2)), "a, b, c, d")

    def test_only_the_outer_par(self):
        self.assertEqual(form_behind("(a|b)|c", opened(0)), "a|b, c")
        self.assertEqual(form_behind("a|b|c", opened(0)), "a, b|c")
        self.assertEqual(form_behind("(a|b)|(c|d)", opened(0)), "a|b, c|d")
        self.assertEqual(form_behind("((a|b)*c)|(d*(e|f)*g)", opened(0)), "(a|b)*c, d*(e|f)*g")
        self.assertEqual(form_behind("((a*b)*c*d)|e", opened(0)), "(a*b)*c*d, e")
        self.assertEqual(form_behind("a*b -o c", opened(0)), "~a|~b, c")

    def test_no_such_formula(self):
        for text, count in (("a|b, c|d, e|f", 3), ("a|b", 1), ("", 0)):
            for wrong in (-1, -count - 1, count, count + 1) + FAR:
                got = run(sequent(text), opened(wrong), FORM)
                self.assertEqual([got[1], told(got[2])], [[-4], text], (text, wrong))

    def test_no_par(self):
        for text in ("a", "~a", "a*b", "(a|b)*(c|d)"):
            got = run(sequent(text), opened(0), FORM)
            self.assertEqual([got[1], told(got[2])], [[-4], text], text)
        self.assertEqual(run(opened(0), opened(1)), [[-4], [-4]])

    def test_nineteen_formulas_and_twenty(self):
        nineteen = ", ".join(["a"] * 18 + ["b|c|d"])
        got = run(sequent(nineteen), opened(18), FORM, opened(19), opened(18), opened(20), FORM)
        self.assertEqual(got[1], [20])
        self.assertEqual(told(got[2]), ", ".join(["a"] * 18 + ["b", "c|d"]))
        self.assertEqual(got[3:6], [[-5], [-4], [-4]])
        self.assertEqual(got[6], got[2])

    def test_refusals_in_their_order(self):
        text = "b|c, d*e, " + ", ".join(["a"] * 18)
        got = run(sequent(text), opened(0), opened(1), opened(2), opened(20), opened(-1), opened(10 ** 18), FORM)
        self.assertEqual(got[1:-1], [[-5], [-4], [-4], [-4], [-4], [-4]])
        self.assertEqual(told(got[-1]), text)

    def test_room_again_behind_shut(self):
        text = "b|c, " + ", ".join(["a"] * 19)
        got = run(sequent(text), opened(0), shut(18), opened(0), FORM)
        self.assertEqual(got[1:-1], [[-5], [19], [20]])
        self.assertEqual(told(got[-1]), "b, c, " + ", ".join(["a"] * 17) + ", a|a")

    def test_what_the_others_answer_behind_it(self):
        got = run(sequent("a*b, ~a|~b"), splits(0), opened(1), FORM, MATCHINGS, NETS, PROVABLE, splits(0), nth(0),
                  place("0-2 1-3"), behind("0-2 1-3"), linked(3, 1), FORCED)
        self.assertEqual(got[1:3], [[0], [3]])
        self.assertEqual(told(got[3]), "a*b, ~a, ~b")
        self.assertEqual(got[4:8], [[1], [1], [1], [1, 1]])
        self.assertEqual(told(got[8]), "0-2 1-3")
        self.assertEqual(got[9:], [[0], [-4], [1], [2, 0, 2, 1, 3]])

    def test_a_tensor_that_comes_to_the_top(self):
        got = run(sequent("~a|(a*b), ~b"), splits(0), splits(1), opened(0), splits(1), splits(0))
        self.assertEqual(got[1:], [[-4], [-4], [3], [1, 1], [-4]])


class Both(unittest.TestCase):
    def test_behind_one_another_many_times(self):
        calls = []
        for turn in range(40):
            calls += [shut(turn % 3), FORM, opened(turn % 3), FORM]
        got = run(sequent("a*b, ~a|c, ~b, ~c"), *calls)
        shut_forms = ["(a*b)|~a|c, ~b, ~c", "a*b, (~a|c)|~b, ~c", "a*b, ~a|c, ~b|~c"]
        for turn in range(40):
            answers = got[1 + 4 * turn:5 + 4 * turn]
            self.assertEqual([answers[0], answers[2]], [[3], [4]])
            self.assertEqual(told(answers[1]), shut_forms[turn % 3])
            self.assertEqual(told(answers[3]), "a*b, ~a|c, ~b, ~c")

    def test_nested_ever_deeper_and_back(self):
        names = [f"n{number}" for number in range(20)]
        there = [call for turn in range(19) for call in (shut(0), FORM)]
        back = [call for turn in range(19) for call in (opened(0), FORM)]
        got = run(sequent(", ".join(names)), *there, *back)
        self.assertEqual(got[1::2], [[count] for count in list(range(19, 0, -1)) + list(range(2, 21))])
        forms = [", ".join(names)] + [told(answer) for answer in got[2::2]]
        self.assertEqual(forms, forms[::-1])
        self.assertEqual(len(set(forms)), 20)

    def test_nothing_of_an_earlier_sequent_is_left(self):
        got = run(sequent("a*~a, a, ~a"), NETS, nth(0), shut(0), NETS, nth(0), shut(0), NETS, nth(0), opened(0),
                  sequent("a|a, ~a|~a"), NETS, nth(0), FORCED, PROVABLE)
        self.assertEqual([got[1], got[4], got[7], got[11]], [[1], [1], [1], [0]])
        self.assertEqual([told(got[at]) for at in (2, 5, 8, 12)], ["0-3 1-2"] * 3 + [-4])
        self.assertEqual(got[13:], [[-4], [0]])

    def test_leaves_keep_their_numbers(self):
        ask = [MATCHINGS, NETS, nth(0), nth(1), linked(0, 4), linked(1, 3), FORCED, place("0-3 1-4 2-5")]
        text = "a*a*b, ~a, ~a, ~b"
        before = run(sequent(text), *ask)[1:]
        self.assertEqual(before[:2], [[2], [2]])
        self.assertEqual(before[6:], [[1, 2, 5], [0]])
        for calls in ([shut(0)], [shut(1)], [shut(2)], [shut(2), shut(1)], [shut(0)] * 3, [shut(1), opened(1)]):
            self.assertEqual(run(sequent(text), *calls, *ask)[1 + len(calls):], before, calls)

    def test_refused_ones_in_between(self):
        got = run(sequent("a*b, ~a, ~b"), shut(2), shut(1), shut(1), opened(0), FORM, opened(1), opened(1), shut(-1),
                  FORM)
        self.assertEqual(got[1:5] + got[6:9], [[-4], [2], [-4], [-4], [3], [-4], [-4]])
        self.assertEqual([told(got[5]), told(got[9])], ["a*b, ~a|~b", "a*b, ~a, ~b"])


if __name__ == "__main__":
    unittest.main()
