"""Points 8 and 9: linked and forced."""

import unittest

from helper import FORCED, MATCHINGS, NETS, last, linked, run, sequent

NEARLY = "a*a*a*a*a*b*b*c*c*d*d*e, ~a|~a|~a|~a|~a|~b|~b|~c|~c|~d|~d|~e"
TOO_MANY = "a*a*a*a*b*b*b*b*c*c, ~a|~a|~a|~a|~b|~b|~b|~b|~c|~c"
MOST = "*".join(["a"] * 12) + ", " + "|".join(["~a"] * 12)
MOST_WITHOUT_NETS = "|".join(["a"] * 12 + ["~a"] * 12)


def forced(text):
    return last(sequent(text), FORCED)


class Linked(unittest.TestCase):
    def test_at_the_beginning(self):
        self.assertEqual(run(linked(0, 1), linked(1, 0)), [[1], [1]])

    def test_example(self):
        got = run(sequent("a*a, ~a|~a"), linked(0, 2), linked(0, 3), linked(1, 2), linked(1, 3))
        self.assertEqual(got[1:], [[1]] * 4)

    def test_either_order(self):
        text = "a*a*b*~c, ~a|~a|~b|c"
        for i in range(8):
            for j in range(8):
                got = run(sequent(text), linked(i, j), linked(j, i))
                self.assertEqual(got[1], got[2], (i, j))

    def test_a_leaf_with_itself(self):
        self.assertEqual(run(linked(0, 0), linked(1, 1)), [[0], [0]])
        self.assertEqual(run(sequent("a*a, ~a|~a"), *[linked(i, i) for i in range(4)])[1:], [[0]] * 4)
        self.assertEqual(last(sequent("a"), linked(0, 0)), [0])

    def test_leaves_that_are_never_linked(self):
        got = run(sequent("a*b, ~a, ~b"), linked(0, 1), linked(0, 3), linked(1, 2), linked(2, 3), linked(0, 2))
        self.assertEqual(got[1:], [[0], [0], [0], [0], [1]])
        self.assertEqual(run(sequent("a*a, ~a|~a"), linked(0, 1), linked(3, 2))[1:], [[0], [0]])

    def test_matchings_that_are_no_nets_do_not_count(self):
        got = run(sequent("a*~a, a, ~a"), linked(0, 1), linked(2, 3), linked(0, 3), linked(1, 2))
        self.assertEqual(got[1:], [[0], [0], [1], [1]])
        self.assertEqual(last(sequent("a|a, ~a|~a"), linked(0, 2)), [0])

    def test_no_matching(self):
        self.assertEqual(run(sequent("a, ~b"), linked(0, 1))[1], [0])
        self.assertEqual(run(sequent("a, ~a, a"), linked(0, 1), linked(1, 2))[1:], [[0], [0]])

    def test_no_such_leaf(self):
        for text, count in (("a, ~a", 2), ("a*a, ~a|~a", 4), ("a", 1), (NEARLY, 24)):
            for wrong in (-1, -2, -count, count, count + 1, 10 ** 18, -10 ** 18):
                got = run(sequent(text), linked(wrong, 0), linked(0, wrong), linked(wrong, wrong),
                          linked(count - 1, wrong), linked(wrong, count - 1))
                self.assertEqual(got[1:], [[-2]] * 5, (text, wrong))

    def test_numbers_of_formulas_and_of_leaves(self):
        # Fewer formulas than leaves: the last leaf is there though no formula has its number.
        self.assertEqual(run(sequent("a|~a"), linked(0, 1), linked(1, 0))[1:], [[1], [1]])

    def test_no_leaves(self):
        self.assertEqual(run(sequent(""), linked(0, 0), linked(0, 1), linked(-1, 0))[1:], [[-2]] * 3)

    def test_refusals_in_their_order(self):
        for text in (MOST, MOST_WITHOUT_NETS):
            got = run(sequent(text), linked(0, 24), linked(-1, 0), linked(10 ** 18, -10 ** 18), linked(0, 12),
                      linked(0, 0), linked(23, 22))
            self.assertEqual(got[1:], [[-2], [-2], [-2], [-7], [-7], [-7]])
        self.assertEqual(run(sequent(TOO_MANY), linked(0, 20), linked(0, 19))[1:], [[-2], [-7]])

    def test_nearly_a_thousand(self):
        got = run(sequent(NEARLY), linked(0, 12), linked(16, 4), linked(5, 17), linked(11, 23), linked(0, 17))
        self.assertEqual(got[1:], [[192], [192], [480], [960], [0]])

    def test_each_net_links_each_leaf_once(self):
        for text in (NEARLY, "a*~a, a*~a, a*~a, a, ~a", "a*b*a, ~a|~b|~a"):
            leaves, nets = (answer[0] for answer in run(sequent(text), NETS))
            self.assertGreater(nets, 0)
            for i in range(leaves):
                got = run(sequent(text), *[linked(i, j) for j in range(leaves)])[1:]
                self.assertEqual(sum(answer[0] for answer in got), nets, (text, i))


class Forced(unittest.TestCase):
    def test_at_the_beginning(self):
        self.assertEqual(run(FORCED), [[1, 0, 1]])

    def test_one_net_alone(self):
        self.assertEqual(forced("a*b, ~a, ~b"), [2, 0, 2, 1, 3])
        self.assertEqual(forced("a|~a"), [1, 0, 1])
        self.assertEqual(forced("~a|a"), [1, 0, 1])

    def test_one_net_among_several_matchings(self):
        self.assertEqual(run(sequent("a*~a, a, ~a"), MATCHINGS, NETS, FORCED)[1:], [[2], [1], [2, 0, 3, 1, 2]])

    def test_by_rising_lesser_numbers(self):
        self.assertEqual(forced("a*b*c, ~c, ~b, ~a"), [3, 0, 5, 1, 4, 2, 3])
        self.assertEqual(forced("a*b, ~b|c, ~c*~a"), [3, 0, 5, 1, 2, 3, 4])

    def test_no_pair_in_common(self):
        self.assertEqual(forced("a*a, ~a|~a"), [0])
        self.assertEqual(forced("a*a*b*b, ~a|~a|~b|~b"), [0])

    def test_some_pairs_in_common(self):
        self.assertEqual(forced("a*a*b, ~a|~a|~b"), [1, 2, 5])
        self.assertEqual(forced("c*a*b*a, ~a|~b|~a|~c"), [2, 0, 7, 2, 5])
        # The last leaves differ where the first ones don't.
        self.assertEqual(forced("b*a*a, ~a|~a|~b"), [1, 0, 5])

    def test_in_common_to_the_nets_not_to_all_matchings(self):
        # Each first leaf could take any of the second ones, but one of them is in its own formula.
        got = run(sequent("a*~a, a|b, ~a, ~b"), MATCHINGS, NETS, FORCED)
        self.assertEqual(got[1:], [[2], [0], [-4]])
        got = run(sequent("a*~a, a*b, ~a, ~b"), MATCHINGS, NETS, FORCED)
        self.assertEqual(got[1:], [[2], [1], [3, 0, 4, 1, 2, 3, 5]])

    def test_no_net(self):
        for text in ("", "a", "a*~a", "a, b", "a|a, ~a|~a", "a, ~a, b, ~b", "(a|b)*~a, ~b"):
            self.assertEqual(forced(text), [-4], text)

    def test_refusals_in_their_order(self):
        self.assertEqual(forced(MOST), [-7])
        self.assertEqual(forced(TOO_MANY), [-7])
        self.assertEqual(forced(MOST_WITHOUT_NETS), [-7])

    def test_nearly_a_thousand(self):
        self.assertEqual(forced(NEARLY), [1, 11, 23])
        text = "a*a*a*a*a*a*b*c*d*e*f*g, ~a|~a|~a|~a|~a|~a|~b|~c|~d|~e|~f|~g"
        got = run(sequent(text), MATCHINGS, NETS, FORCED)
        self.assertEqual(got[1:], [[720], [720], [6, 6, 18, 7, 19, 8, 20, 9, 21, 10, 22, 11, 23]])

    def test_forced_and_linked_belong_together(self):
        text = "a*~a, a*~a, b*a, ~b*~a"
        leaves, nets = (answer[0] for answer in run(sequent(text), NETS))
        pairs = []
        for i in range(leaves):
            for j in range(i + 1, leaves):
                if nets > 0 and last(sequent(text), linked(i, j)) == [nets]:
                    pairs += [i, j]
        self.assertEqual(forced(text), [len(pairs) // 2] + pairs if nets > 0 else [-4])


if __name__ == "__main__":
    unittest.main()
