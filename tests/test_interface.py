"""The calls as one list: its form, what refused calls leave as it was, and that nothing is kept or changed."""

import contextlib
import io
import sys
import unittest

from helper import (FORCED, FORM, MATCHINGS, NETS, PROVABLE, answers, behind, linked, nth, opened, place, run, sequent,
                    shut, splits, told)

MANY = "*".join(["a"] * 12) + ", " + "|".join(["~a"] * 12)


class Untouched(list):
    """A list that says so when it's changed, even if it's changed back."""

    def refuse(self, *given, **named):
        raise AssertionError("the list handed in was changed")

    __setitem__ = __delitem__ = __iadd__ = __imul__ = refuse
    append = extend = insert = pop = remove = clear = sort = reverse = refuse


def a_long_line():
    calls = [FORM, sequent("a*a, ~a|~a"), FORM, MATCHINGS, NETS, nth(0), nth(1), nth(2), nth(-1), place("0-2 1-3"),
             place("0-3 1-2"), place("1-3 0-2"), behind("0-2 1-3"), behind("0-3 1-2"), behind(""), sequent("a*b|c"),
             sequent(MANY), MATCHINGS, NETS, nth(0), linked(0, 1), FORCED, PROVABLE, splits(0), sequent(""), FORM,
             MATCHINGS, NETS, place(""), behind(""), linked(0, 0), FORCED, PROVABLE, splits(0), shut(0), opened(0),
             sequent("a*a*b, ~a, ~a, ~b"), linked(0, 4), linked(5, 2), linked(0, 6), FORCED, PROVABLE, splits(0),
             splits(1), shut(1), FORM, splits(0), NETS, opened(1), FORM, opened(0), shut(3)]
    return [number for call in calls for number in call]


class Form(unittest.TestCase):
    def test_each_answer_has_how_many_numbers_before_it(self):
        self.assertEqual(answers([1]), [6, 5, 97, 44, 32, 126, 97])
        self.assertEqual(answers([2]), [1, 1])
        self.assertEqual(answers([3]), [1, 1])
        self.assertEqual(answers([4, 0]), [4, 3, 48, 45, 49])
        self.assertEqual(answers([4, -3]), [1, -2])
        self.assertEqual(answers([5, 3, 48, 45, 49]), [1, 0])
        self.assertEqual(answers([6, 3, 48, 45, 49]), [1, -4])
        self.assertEqual(answers([7, 0, 1]), [1, 1])
        self.assertEqual(answers([7, 0, 2]), [1, -2])
        self.assertEqual(answers([8]), [3, 1, 0, 1])
        self.assertEqual(answers([9]), [1, 1])
        self.assertEqual(answers([10, 0]), [1, -4])
        self.assertEqual(answers([11, 0]), [1, 1])
        self.assertEqual(answers([12, 0]), [1, -4])
        self.assertEqual(answers([0, 1, 97]), [1, 1])
        self.assertEqual(answers([0, 0]), [1, 0])
        self.assertEqual(answers([0, 0, 1]), [1, 0, 1, 0])

    def test_calls_stand_one_behind_another(self):
        self.assertEqual(answers([0, 3, 97, 124, 98, 1, 2, 4, 0, 5, 0, 6, 1, 32, 3]),
                         [1, 2, 4, 3, 97, 124, 98, 1, 0, 1, -4, 1, -1, 1, -1, 1, 0])

    def test_numbers_that_look_like_calls(self):
        got = answers([11, 0, 7, 1, 0, 10, 8, 12, 0, 7, 8, 9, 8, 9, 11, 12, 1])
        self.assertEqual(got, [1, 1, 1, 1, 1, -4, 1, 2, 1, -2, 3, 1, 0, 1, 1, 1, 1, -4, 6, 5, 97, 44, 32, 126, 97])

    def test_whole_numbers_in_a_list(self):
        got = answers(a_long_line())
        self.assertIs(type(got), list)
        self.assertEqual({type(number) for number in got}, {int})

    def test_two_hundred_calls(self):
        self.assertEqual(run(*[NETS] * 200), [[1]] * 200)
        got = run(*[sequent("a*a*a*a*a*a, ~a|~a|~a|~a|~a|~a"), nth(719)] * 100)
        self.assertEqual(got[0::2], [[12]] * 100)
        self.assertEqual([told(answer) for answer in got[1::2]], ["0-11 1-10 2-9 3-8 4-7 5-6"] * 100)

    def test_longest_texts(self):
        got = run(*[sequent(" " * 2100), FORM, place("0" * 2100), behind(" " * 2100)] * 2)
        self.assertEqual(got, [[0], [0], [-1], [-1]] * 2)


class Kept(unittest.TestCase):
    def test_a_new_object_each_time(self):
        self.assertEqual(told(run(FORM)[0]), "a, ~a")
        run(sequent("b*c"), NETS)
        self.assertEqual(told(run(FORM)[0]), "a, ~a")
        self.assertEqual(run(MATCHINGS, NETS, nth(0)), [[1], [1], [3, 48, 45, 49]])

    def test_a_second_time_gives_the_same(self):
        line = a_long_line()
        first = answers(line)
        self.assertEqual(answers(line), first)
        self.assertEqual(answers(list(line)), first)

    def test_what_is_given_back_is_not_kept(self):
        first = answers(a_long_line())
        copy = list(first)
        first[:] = [0] * len(first)
        self.assertEqual(answers(a_long_line()), copy)

    def test_the_list_is_as_it_was(self):
        line = a_long_line()
        watched = Untouched(line)
        answers(watched)
        self.assertEqual(list(watched), line)

    def test_a_new_sequent_has_nets_of_its_own(self):
        got = run(sequent("a*a, ~a|~a"), NETS, sequent("a|a, ~a|~a"), NETS, nth(0), sequent("a*b, ~a, ~b"), NETS)
        self.assertEqual(got, [[4], [2], [4], [0], [-4], [4], [1]])

    def test_nothing_is_printed_or_imported(self):
        modules = set(sys.modules)
        printed = io.StringIO()
        with contextlib.redirect_stdout(printed), contextlib.redirect_stderr(printed):
            answers(a_long_line())
        self.assertEqual(printed.getvalue(), "")
        self.assertEqual(set(sys.modules), modules)


class Refused(unittest.TestCase):
    def test_a_refused_call_leaves_everything_as_it_was(self):
        refused = [
            (sequent("a*b|c"), -1), (sequent(","), -1), (sequent(",".join(["a"] * 21)), -1),
            (sequent("a" + " " * 2000), -1), (sequent("*".join(["a"] * 25)), -5), (nth(-1), -2), (nth(2), -4),
            (place("0-1 2-3"), -1), (place("0-1 2-3 4-5"), -4), (behind("0-1"), -1), (behind("0-5 1-2 3-4"), -4),
            (linked(-1, 0), -2), (linked(0, 6), -2), (splits(2), -4), (splits(-1), -4), (splits(4), -4), (shut(3), -4),
            (shut(-1), -4), (opened(0), -4), (opened(3), -4), (opened(4), -4), (opened(-1), -4),
        ]
        ask = [FORM, MATCHINGS, NETS, nth(0), nth(1), place("0-5 1-2 3-4"), behind("0-3 1-4 2-5"), linked(0, 5), FORCED,
               PROVABLE, splits(0), splits(1)]
        begin = sequent("a*~a, a*~a, a, ~a")
        before = run(begin, *ask)[1:]
        self.assertEqual(before[1:3] + before[5:6], [[6], [2], [1]])
        self.assertEqual(before[7:], [[1], [0], [1], [2, 2, 1], [2, 2, 1]])
        for call, number in refused:
            got = run(begin, call, *ask)
            self.assertEqual(got[1], [number], call)
            self.assertEqual(got[2:], before, call)
            got = run(begin, *ask, call, *ask)
            self.assertEqual(got[len(ask) + 2:], before, call)

    def test_too_many_matchings_leave_everything_as_it_was(self):
        links = " ".join(f"{leaf}-{leaf + 12}" for leaf in range(12))
        got = run(sequent(MANY), NETS, nth(0), place(links), behind(links), linked(0, 12), FORCED, FORM, MATCHINGS)
        self.assertEqual(got[1:7], [[-7]] * 6)
        self.assertEqual(told(got[7]), MANY)
        self.assertEqual(got[8], [479001600])

    def test_too_many_leaves_leave_everything_as_it_was(self):
        text = "a*b*c*d*e*f*g, ~a|~b|~c|~d|~e|~f|~g"
        ask = [FORM, MATCHINGS, NETS, nth(0), FORCED]
        before = run(sequent(text), *ask)[1:]
        got = run(sequent(text), PROVABLE, splits(0), *ask)
        self.assertEqual(got[1:3], [[-8], [-8]])
        self.assertEqual(got[3:], before)

    def test_too_many_formulas_leave_everything_as_it_was(self):
        text = "a|b, " + ", ".join(["a", "~a"] * 9 + ["~b"])
        got = run(sequent(text), FORM, NETS, opened(0), FORM, NETS, MATCHINGS, shut(18), opened(0))
        self.assertEqual(got[3], [-5])
        self.assertEqual(got[4:6], got[1:3])
        self.assertEqual(told(got[4]), text)
        self.assertEqual(got[7:], [[19], [20]])

    def test_refused_without_a_net(self):
        ask = [FORM, MATCHINGS, NETS, PROVABLE, linked(0, 2)]
        before = run(sequent("a|a, ~a|~a"), *ask)[1:]
        got = run(sequent("a|a, ~a|~a"), FORCED, nth(0), *ask)
        self.assertEqual(got[1:3], [[-4], [-4]])
        self.assertEqual(got[3:], before)


if __name__ == "__main__":
    unittest.main()
