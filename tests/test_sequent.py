"""Point 1: what is read as a sequent, and what is refused."""

import unittest

from helper import FORM, MATCHINGS, last, run, sequent, told


def leaves(text):
    (answer,) = run(sequent(text))
    return answer


def form(text):
    return told(last(sequent(text), FORM))


class Read(unittest.TestCase):
    def test_answers_how_many_leaves(self):
        for text, count in (("a", 1), ("a, ~a", 2), ("a*a, ~a|~a", 4), ("a*b, ~a, ~b", 4), ("(a|b)*c -o d", 4)):
            self.assertEqual(leaves(text), [count], text)

    def test_is_held_from_then_on(self):
        got = run(sequent("a*b, c"), FORM, sequent("d"), FORM)
        self.assertEqual([told(got[1]), told(got[3])], ["a*b, c", "d"])

    def test_empty_sequent(self):
        for text in ("", " ", " " * 7, " " * 2000, " " * 2001, " " * 2100):
            self.assertEqual(run(sequent(text), FORM, MATCHINGS), [[0], [0], [1]], len(text))

    def test_blanks_mean_nothing_between_tokens(self):
        self.assertEqual(form("  ( a *~ b )|  ~  ~c -o d , e  "), "((~a|b)*~c)|d, e")
        self.assertEqual(form("a-ob"), "~a|b")

    def test_blanks_part_names(self):
        for text in ("a b", "a ~b", "a (b)", "(a) b", "~ a a", "a *b c"):
            self.assertEqual(leaves(text), [-1], text)


class Names(unittest.TestCase):
    def test_twelve_bytes_and_thirteen(self):
        self.assertEqual(leaves("abcdefghijkl"), [1])
        self.assertEqual(leaves("a12345678901"), [1])
        self.assertEqual(leaves("abcdefghijklm"), [-1])
        self.assertEqual(leaves("a*~abcdefghijklm"), [-1])

    def test_stretches_that_are_no_name(self):
        for text in ("1", "1a", "0", "9z", "a*1", "~1a", "a-o1", "a*bcdefghijklmn"):
            self.assertEqual(leaves(text), [-1], text)

    def test_names_are_as_long_as_can_be(self):
        self.assertEqual(form("ab*a1b2"), "ab*a1b2")
        self.assertEqual(form("oo -o o"), "~oo|o")
        self.assertEqual(form("a-oo"), "~a|o")
        self.assertEqual(form("a-oabcdefghijkl"), "~a|abcdefghijkl")
        self.assertEqual(leaves("a-oabcdefghijklm"), [-1])

    def test_first_and_last_letters_and_digits(self):
        self.assertEqual(form("a, z, a0, z9"), "a, z, a0, z9")


class Bytes(unittest.TestCase):
    def test_each_byte_alone(self):
        for byte in range(256):
            expected = 1 if 97 <= byte <= 122 else 0 if byte == 32 else -1
            self.assertEqual(leaves([byte]), [expected], byte)

    def test_each_byte_between_two_names(self):
        for byte in range(256):
            if 97 <= byte <= 122 or 48 <= byte <= 57:
                expected = 1
            else:
                expected = 2 if byte in b"*|," else -1
            self.assertEqual(leaves([97, byte, 98]), [expected], byte)

    def test_each_byte_behind_a_dash(self):
        for byte in range(256):
            self.assertEqual(leaves([97, 45, byte, 98]), [2 if byte == 111 else -1], byte)


class Signs(unittest.TestCase):
    def test_dash_without_o(self):
        for text in ("a-b", "a - o b", "a-", "-", "-o", "a-o", "-ob", "a--ob", "a-O b", "a -0 b", "a,-"):
            self.assertEqual(leaves(text), [-1], text)

    def test_chains_of_one_sign_go_to_the_right(self):
        self.assertEqual(form("a*b*c"), "a*b*c")
        self.assertEqual(form("a*(b*c)"), "a*b*c")
        self.assertEqual(form("(a*b)*c"), "(a*b)*c")

    def test_chains_of_two_signs(self):
        for text in ("a*b|c", "a|b*c", "a*b*c|d", "(a*b|c)", "a*~b|c", "a*(b)|c", "a -o b*c|d", "a|b*c -o d"):
            self.assertEqual(leaves(text), [-1], text)

    def test_one_sign_for_each_chain(self):
        for text in ("a*(b|c)", "(a*b)|c", "a*b -o c|d", "a|b -o c*d -o e|f", "~(a*b)|c", "a*~(b|c)*d"):
            self.assertNotEqual(leaves(text), [-1], text)

    def test_arrow(self):
        self.assertEqual(form("a -o b"), "~a|b")
        self.assertEqual(form("a -o b -o c"), "~a|~b|c")
        self.assertEqual(form("(a -o b) -o c"), "(a*~b)|c")
        self.assertEqual(form("a*b -o c*d"), "(~a|~b)|(c*d)")
        self.assertEqual(form("a|b -o c|d"), "(~a*~b)|c|d")

    def test_turned(self):
        self.assertEqual(form("~a"), "~a")
        self.assertEqual(form("~~a"), "a")
        self.assertEqual(form("~a*b"), "~a*b")
        self.assertEqual(form("~(a*b)"), "~a|~b")
        self.assertEqual(form("~(a|~b)"), "~a*b")
        self.assertEqual(form("~(a -o b)"), "a*~b")
        self.assertEqual(form("~~(a*(b|c))"), "a*(b|c)")
        self.assertEqual(form("~(a*(b|c))"), "~a|(~b*~c)")

    def test_what_is_no_formula(self):
        for text in ("(", ")", "()", "(a", "a)", "((a)", "(a))", "~", "a~", "*", "a*", "*a", "a**b", "a*|b", "|a",
                     "a(b)", "(a)(b)", "(a)b", "~)", "(~)", "a -o -o b", "(a -o)", "a)*(b", "a\tb", "A", "a\n", "a_b"):
            self.assertEqual(leaves(text), [-1], text)


class Sequents(unittest.TestCase):
    def test_empty_parts(self):
        for text in (",", "a,", ",a", "a,,b", "a, ,b", " , ", ", a", "a ,"):
            self.assertEqual(leaves(text), [-1], text)

    def test_one_wrong_part_is_enough(self):
        for text in ("a, b, c*", "*, a", "a, b|c*d, e", "(a, b)", "a, 1"):
            self.assertEqual(leaves(text), [-1], text)

    def test_twenty_formulas_and_more(self):
        self.assertEqual(leaves(", ".join(["a"] * 20)), [20])
        self.assertEqual(leaves(", ".join(["a"] * 21)), [-1])
        self.assertEqual(leaves(",".join(["a"] * 1000)), [-1])

    def test_leaves_up_to_twenty_four(self):
        self.assertEqual(leaves("*".join(["a"] * 24)), [24])
        self.assertEqual(leaves("*".join(["a"] * 25)), [-5])
        self.assertEqual(leaves(", ".join(["a"] * 16 + ["b|b"] * 4)), [24])
        self.assertEqual(leaves(", ".join(["a"] * 15 + ["b|b"] * 5)), [-5])

    def test_wrong_text_before_too_many_leaves(self):
        many = "*".join(["a"] * 30)
        self.assertEqual(leaves(many), [-5])
        self.assertEqual(leaves(many + ", "), [-1])
        self.assertEqual(leaves(many + ", a*b|c"), [-1])
        self.assertEqual(leaves(", ".join(["a"] * 20 + [many])), [-1])

    def test_formulas_of_many_leaves_are_only_too_large(self):
        for count in (41, 60, 61, 101):
            self.assertEqual(leaves("*".join(["a"] * count)), [-5], count)


class Lengths(unittest.TestCase):
    def test_a_formula_of_2000_bytes_and_of_more(self):
        self.assertEqual(leaves("a" + " " * 1999), [1])
        self.assertEqual(leaves("a" + " " * 2000), [-1])
        self.assertEqual(leaves(" " * 1999 + "a"), [1])
        self.assertEqual(leaves(" " * 2000 + "a"), [-1])
        self.assertEqual(leaves("a" + " " * 1997 + "*b"), [2])
        self.assertEqual(leaves("a" + " " * 1998 + "*b"), [-1])

    def test_each_formula_has_2000_bytes_of_its_own(self):
        self.assertEqual(leaves("a," + " " * 1999 + "b"), [2])
        self.assertEqual(leaves("a," + " " * 2000 + "b"), [-1])
        self.assertEqual(leaves("a" + " " * 1999 + ",b" + " " * 98), [2])
        self.assertEqual(leaves(" " * 1049 + "a," + " " * 1048 + "b"), [2])

    def test_2000_bytes_of_tokens(self):
        text = "*".join(["(" + "|".join(["abcdefghijkl"] * 30) + ")"] * 5)
        self.assertEqual(len(text), 1959)
        self.assertEqual(leaves(text + "*abcdefghijkl" * 3 + "*a"), [-5])
        self.assertEqual(leaves(text + "*abcdefghijkl" * 3 + "*aa"), [-1])


class OpenAtOnePlace(unittest.TestCase):
    def test_brackets(self):
        self.assertEqual(leaves("(" * 100 + "a" + ")" * 100), [1])
        self.assertEqual(leaves("(" * 101 + "a" + ")" * 101), [-1])

    def test_turning_signs(self):
        self.assertEqual(form("~" * 100 + "a"), "a")
        self.assertEqual(form("~" * 99 + "a"), "~a")
        self.assertEqual(leaves("~" * 101 + "a"), [-1])

    def test_signs_of_a_chain(self):
        for sign in "*|":
            self.assertEqual(leaves(sign.join(["a"] * 101)), [-5])
            self.assertEqual(leaves(sign.join(["a"] * 102)), [-1])

    def test_arrows(self):
        self.assertEqual(leaves("-o".join(["a"] * 101)), [-5])
        self.assertEqual(leaves("-o".join(["a"] * 102)), [-1])

    def test_of_all_kinds_together(self):
        for opening, closing in (("a*(", ")"), ("(a|", ")"), ("a-o(", ")"), ("~(", ")")):
            for spare, expected in ((100 - 2 * 20, True), (101 - 2 * 20, False)):
                text = opening * 20 + "~" * spare + "b" + closing * 20
                self.assertEqual(leaves(text) != [-1], expected, text)

    def test_brackets_end_at_their_closing(self):
        deep = "(" * 100 + "a" + ")" * 100
        self.assertEqual(leaves(deep + ", " + deep), [2])
        for sign in ("*", "|", "-o"):
            self.assertEqual(leaves(deep + sign + deep[1:-1]), [2])
            self.assertEqual(leaves(deep + sign + deep), [-1])

    def test_turning_signs_end_with_their_part(self):
        for sign in ("*", "|", "-o"):
            self.assertEqual(leaves("~" * 100 + "a" + sign + "~" * 99 + "b"), [2])
            self.assertEqual(leaves("~" * 100 + "a" + sign + "~" * 100 + "b"), [-1])
        self.assertEqual(leaves("~" * 50 + "(" + "~" * 49 + "a)*" + "~" * 99 + "b"), [2])

    def test_signs_of_a_chain_end_with_it(self):
        self.assertEqual(leaves("a*b*c -o " + "~" * 99 + "d"), [4])
        self.assertEqual(leaves("a*b*c -o " + "~" * 100 + "d"), [-1])
        self.assertEqual(leaves("(a*b*c)|" + "~" * 99 + "d"), [4])
        self.assertEqual(leaves("a*b*c*" + "~" * 97 + "d"), [4])
        self.assertEqual(leaves("a*b*c*" + "~" * 98 + "d"), [-1])
        self.assertEqual(leaves("a*" + "~" * 99 + "b*c"), [3])
        self.assertEqual(leaves("a*" + "~" * 100 + "b*c"), [-1])

    def test_arrows_end_with_their_formula(self):
        self.assertEqual(leaves("(a -o b -o c)*" + "~" * 99 + "d"), [4])
        self.assertEqual(leaves("(a -o b -o c)*" + "~" * 100 + "d"), [-1])
        self.assertEqual(leaves("a -o b -o " + "~" * 98 + "c"), [3])
        self.assertEqual(leaves("a -o b -o " + "~" * 99 + "c"), [-1])
        self.assertEqual(leaves("a -o " + "~" * 99 + "b -o c"), [3])

    def test_far_deeper_than_python_nests(self):
        for text in ("(" * 2000, "~" * 2000, "(" * 1000 + ")" * 1000, "a*" * 1000, "(" * 900 + "a" + ")" * 900):
            self.assertEqual(leaves(text), [-1])


if __name__ == "__main__":
    unittest.main()
