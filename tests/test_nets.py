"""Points 4 to 7: nets, nth, place and next."""

import unittest

from helper import MATCHINGS, NETS, behind, last, nth, place, run, sequent, told

NEARLY = "a*a*a*a*a*b*b*c*c*d*d*e, ~a|~a|~a|~a|~a|~b|~b|~c|~c|~d|~d|~e"
TOO_MANY = "a*a*a*a*b*b*b*b*c*c, ~a|~a|~a|~a|~b|~b|~b|~b|~c|~c"
MOST = "*".join(["a"] * 12) + ", " + "|".join(["~a"] * 12)
# The same leaves, but the first two are linked in some matchings, and these are no nets.
MIXED = "a*~a, a*a*a*a*a*a, ~a|~a|~a|~a|~a, ~a"


def straight(count):
    return " ".join(f"{leaf}-{leaf + count}" for leaf in range(count))


def nets(text):
    return last(sequent(text), NETS)


class Nets(unittest.TestCase):
    def test_at_the_beginning(self):
        self.assertEqual(run(NETS), [[1]])

    def test_examples(self):
        self.assertEqual(nets("a*a, ~a|~a"), [2])
        self.assertEqual(nets("a|a, ~a|~a"), [0])
        self.assertEqual(nets("a*b, ~a, ~b"), [1])

    def test_single_formulas(self):
        self.assertEqual(nets("a|~a"), [1])
        self.assertEqual(nets("a*~a"), [0])
        self.assertEqual(nets("a -o a"), [1])
        self.assertEqual(nets("a"), [0])
        self.assertEqual(nets("(a -o a) -o (a -o a)"), [1])
        self.assertEqual(nets("a*b -o b*a"), [1])
        self.assertEqual(nets("a|b -o a*b"), [0])
        self.assertEqual(nets("a*b -o a|b"), [0])

    def test_an_edge_within_one_cluster(self):
        self.assertEqual(nets("a*~a, b, ~b"), [0])
        self.assertEqual(nets("a*b, ~a*~b"), [0])

    def test_a_par_that_is_in_the_cluster_of_its_formulas(self):
        self.assertEqual(nets("(a|~a)*b, ~b"), [1])
        self.assertEqual(nets("(a|b)*c, ~a*~b, ~c"), [1])
        self.assertEqual(nets("(a|b)*~a*~b"), [0])
        self.assertEqual(nets("(a|b)*c, ~a*~b*~c"), [0])
        # Here just the links and pars are there that could leave one cluster.
        self.assertEqual(nets("(a|b)*c, ~a*~b*~c, d, ~d"), [0])

    def test_a_par_that_waits_for_another(self):
        self.assertEqual(nets("(a|(b|c)), ~a*~b*~c"), [1])
        self.assertEqual(nets("((~a|~b)|~c), (a*b)*c"), [1])
        self.assertEqual(nets("(a|b)*(c|d), ~a*~b, ~c*~d"), [1])

    def test_a_par_that_is_never_taken(self):
        self.assertEqual(nets("(a|b)*~a, ~b"), [0])
        self.assertEqual(nets("(a|b)*(c|d), ~a*~c, ~b, ~d"), [0])
        self.assertEqual(nets("(a|b)*(c|d), ~a*~c, ~b*~d"), [0])

    def test_more_than_one_cluster_in_the_end(self):
        self.assertEqual(nets("a, ~a, b, ~b"), [0])
        self.assertEqual(nets("a|~a, b|~b"), [0])

    def test_empty_sequent_has_no_net(self):
        self.assertEqual(nets(""), [0])

    def test_leaves_without_a_matching(self):
        self.assertEqual(nets("a, ~b"), [0])
        self.assertEqual(nets("*".join(["a"] * 12) + ", " + "|".join(["~a"] * 11) + ", ~b"), [0])

    def test_nearly_a_thousand_matchings_and_more(self):
        self.assertEqual(run(sequent(NEARLY), MATCHINGS, NETS)[1:], [[960], [960]])
        self.assertEqual(run(sequent(TOO_MANY), MATCHINGS, NETS)[1:], [[1152], [-7]])
        self.assertEqual(nets(MOST), [-7])

    def test_too_many_matchings_even_if_none_is_a_net(self):
        self.assertEqual(nets("|".join(["a"] * 12 + ["~a"] * 12)), [-7])


class Nth(unittest.TestCase):
    def test_examples(self):
        got = run(sequent("a*a, ~a|~a"), nth(0), nth(1), nth(2))
        self.assertEqual([told(answer) for answer in got[1:]], ["0-2 1-3", "0-3 1-2", -4])

    def test_at_the_beginning(self):
        self.assertEqual(run(nth(0)), [[3, 48, 45, 49]])

    def test_below_zero(self):
        self.assertEqual(run(nth(-1), nth(-10 ** 18)), [[-2], [-2]])
        self.assertEqual(run(sequent("a"), nth(-1))[1], [-2])

    def test_not_so_many_nets(self):
        self.assertEqual(run(nth(1), nth(10 ** 18)), [[-4], [-4]])
        self.assertEqual(run(sequent(""), nth(0))[1], [-4])
        self.assertEqual(run(sequent("a"), nth(0))[1], [-4])
        self.assertEqual(run(sequent("a|a, ~a|~a"), nth(0))[1], [-4])

    def test_matchings_that_are_no_nets_do_not_count(self):
        # Leaf 0 could take leaf 1, but then it is no net.
        got = run(sequent("a*~a, a, ~a"), MATCHINGS, NETS, nth(0), nth(1))
        self.assertEqual(got[1:3] + [told(answer) for answer in got[3:]], [[2], [1], "0-3 1-2", -4])

    def test_refusals_in_their_order(self):
        self.assertEqual(run(sequent(MOST), nth(-1), nth(0), nth(10 ** 18))[1:], [[-2], [-7], [-7]])
        self.assertEqual(last(sequent(TOO_MANY), nth(0)), [-7])

    def test_nearly_a_thousand(self):
        got = run(sequent(NEARLY), nth(0), nth(959), nth(960))
        self.assertEqual(told(got[1]), straight(12))
        self.assertEqual(told(got[2]), "0-16 1-15 2-14 3-13 4-12 5-18 6-17 7-20 8-19 9-22 10-21 11-23")
        self.assertEqual(got[3], [-4])

    def test_numbers_of_two_digits_are_ordered_as_numbers(self):
        text = "a*a*b*c*d*e, ~b|~c|~d|~a|~a|~e"
        got = run(sequent(text), nth(0), nth(1))
        self.assertEqual(told(got[1]), "0-9 1-10 2-6 3-7 4-8 5-11")
        self.assertEqual(told(got[2]), "0-10 1-9 2-6 3-7 4-8 5-11")


WRONG_LINKS = (
    "", " ", "0", "-", "0-2", "1-3", "0-2 1-3 ", " 0-2 1-3", "0-2  1-3", "0 -2 1-3", "0- 2 1-3", "00-2 1-3", "0-02 1-3",
    "0-2 01-3", "0-2 1-03", "1-3 0-2", "2-0 1-3", "0-2 3-1", "0-1 2-3", "0-2 1-2", "0-2 0-3", "0-2 0-2", "0-2,1-3",
    "0-2 1-3 4-5", "0-2 1-4", "0-21-3", "0-2 1-3\n", "0-2\t1-3", "0=2 1-3", "0--2 1-3", "0-2 1--3", "-0-2 1-3",
    "+0-2 1-3", "0-2 1-3-", "a-b", "0-2 1-" + "0" * 90 + "3", "0-2 1-" + "3" * 2000, "0-0 1-1", "2-3", "0-2 1",
    "0-2 1-", "0-2 -3", " " * 2100, "0" * 2100,
)


class Place(unittest.TestCase):
    def test_examples(self):
        self.assertEqual(run(sequent("a*a, ~a|~a"), place("0-2 1-3"), place("0-3 1-2"))[1:], [[0], [1]])
        self.assertEqual(run(place("0-1")), [[0]])

    def test_what_is_not_the_links_of_a_matching(self):
        for links in WRONG_LINKS:
            self.assertEqual(run(sequent("a*a, ~a|~a"), place(links))[1], [-1], links)

    def test_each_byte_in_each_place(self):
        right = {b"0-2 1-3": [0], b"0-3 1-2": [1]}
        for at in range(7):
            for byte in range(256):
                links = bytearray(b"0-2 1-3")
                links[at] = byte
                got = last(sequent("a*a, ~a|~a"), place(links))
                self.assertEqual(got, right.get(bytes(links), [-1]), links)

    def test_links_of_another_sequent(self):
        got = run(sequent("a*b, ~a, ~b"), place("0-2 1-3"), place("0-3 1-2"), place("0-1"))
        self.assertEqual(got[1:], [[0], [-1], [-1]])
        self.assertEqual(run(sequent("a*a, ~a|~a"), sequent("a, ~a"), place("0-2 1-3"))[2], [-1])
        self.assertEqual(last(sequent("a, b"), place("0-1")), [-1])
        self.assertEqual(last(sequent("a, a"), place("0-1")), [-1])

    def test_a_matching_that_is_no_net(self):
        self.assertEqual(last(sequent("a|a, ~a|~a"), place("0-2 1-3")), [-4])
        self.assertEqual(last(sequent("a*~a"), place("0-1")), [-4])
        self.assertEqual(last(sequent("a*~a, a, ~a"), place("0-1 2-3")), [-4])
        self.assertEqual(last(sequent("a*~a, a, ~a"), place("0-3 1-2")), [0])

    def test_empty_sequent(self):
        self.assertEqual(run(sequent(""), place(""), place(" "), place("0-1"))[1:], [[-4], [-1], [-1]])

    def test_refusals_in_their_order(self):
        self.assertEqual(run(sequent(MOST), place(""), place(straight(12)))[1:], [[-1], [-7]])
        no_net = "0-1 2-8 3-9 4-10 5-11 6-12 7-13"
        a_net = "0-13 1-2 3-8 4-9 5-10 6-11 7-12"
        got = run(sequent(MIXED), MATCHINGS, place("0-1"), place(no_net), place(a_net))
        self.assertEqual(got[1:], [[5040], [-1], [-4], [-7]])

    def test_nearly_a_thousand(self):
        links = "0-16 1-15 2-14 3-13 4-12 5-18 6-17 7-20 8-19 9-22 10-21 11-23"
        self.assertEqual(run(sequent(NEARLY), place(straight(12)), place(links))[1:], [[0], [959]])

    def test_nth_and_place_belong_together(self):
        links = [told(answer) for answer in run(sequent(NEARLY), *[nth(k) for k in range(0, 960, 37)])[1:]]
        got = run(sequent(NEARLY), *[place(text) for text in links])[1:]
        self.assertEqual(got, [[k] for k in range(0, 960, 37)])


class Next(unittest.TestCase):
    def test_examples(self):
        got = run(sequent("a*a, ~a|~a"), behind("0-2 1-3"), behind("0-3 1-2"))
        self.assertEqual([told(answer) for answer in got[1:]], ["0-3 1-2", -4])
        self.assertEqual(run(behind("0-1")), [[-4]])

    def test_what_is_not_the_links_of_a_matching(self):
        for links in WRONG_LINKS:
            self.assertEqual(run(sequent("a*a, ~a|~a"), behind(links))[1], [-1], links)

    def test_the_matching_need_not_be_a_net(self):
        got = run(sequent("a*~a, a, ~a"), behind("0-1 2-3"), behind("0-3 1-2"))
        self.assertEqual([told(answer) for answer in got[1:]], ["0-3 1-2", -4])

    def test_no_net_at_all(self):
        self.assertEqual(run(sequent("a|a, ~a|~a"), behind("0-2 1-3"), behind("0-1"))[1:], [[-4], [-1]])
        self.assertEqual(run(sequent(""), behind(""), behind(" "))[1:], [[-4], [-1]])

    def test_refusals_in_their_order(self):
        got = run(sequent(MOST), behind("0-1"), behind(straight(12)))
        self.assertEqual(got[1:], [[-1], [-7]])
        got = run(sequent("|".join(["a"] * 12 + ["~a"] * 12)), behind(straight(12)), behind(""))
        self.assertEqual(got[1:], [[-7], [-1]])
        self.assertEqual(last(sequent(TOO_MANY), behind(straight(10))), [-7])

    def test_goes_through_all_nets(self):
        text = "a*a*a*a, ~a|~a|~a|~a"
        links, seen = told(last(sequent(text), nth(0))), []
        while links != -4:
            seen.append(links)
            links = told(last(sequent(text), behind(links)))
        self.assertEqual(seen, [told(answer) for answer in run(sequent(text), *[nth(k) for k in range(24)])[1:]])
        self.assertEqual(len(set(seen)), 24)

    def test_nearly_a_thousand(self):
        got = told(last(sequent(NEARLY), behind(straight(12))))
        self.assertEqual(got, told(last(sequent(NEARLY), nth(1))))
        last_links = "0-16 1-15 2-14 3-13 4-12 5-18 6-17 7-20 8-19 9-22 10-21 11-23"
        self.assertEqual(last(sequent(NEARLY), behind(last_links)), [-4])


if __name__ == "__main__":
    unittest.main()
