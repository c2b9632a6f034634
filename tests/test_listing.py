import copy
import itertools
import unittest

from signmill.listing import forms
from signmill.words import before
from tests.plain import GREAT, plain_forms, short_words, some_lists


class Forms(unittest.TestCase):
    def test_no_rules(self):
        self.assertEqual(forms([], "ab", 2), ["", "a", "b", "aa", "ab", "ba", "bb"])
        self.assertEqual(forms([], "z", 3), ["", "z", "zz", "zzz"])

    def test_no_signs(self):
        for most in [0, 1, 5] + GREAT:
            self.assertEqual(forms([], "", most), [""])
            self.assertEqual(forms([("a", "")], "", most), [""])

    def test_length_less_than_nought(self):
        for most in [-1, -2, -3] + [-great for great in GREAT]:
            self.assertEqual(forms([], "ab", most), [])
            self.assertEqual(forms([("aa", "b")], "ab", most), [])
            self.assertEqual(forms([], "", most), [])

    def test_length_of_nought(self):
        self.assertEqual(forms([], "ab", 0), [""])
        self.assertEqual(forms([("a", ""), ("b", "")], "ab", 0), [""])

    def test_length_of_one(self):
        self.assertEqual(forms([], "ab", 1), ["", "a", "b"])
        self.assertEqual(forms([("a", "")], "ab", 1), ["", "b"])
        self.assertEqual(forms([("aa", "")], "ab", 1), ["", "a", "b"])

    def test_words_just_as_long_as_told_are_there(self):
        self.assertEqual(forms([("b", "")], "ab", 3), ["", "a", "aa", "aaa"])

    def test_rule_at_the_beginning_within_and_at_the_end(self):
        self.assertEqual(forms([("ab", "")], "ab", 3), ["", "a", "b", "aa", "ba", "bb", "aaa", "baa", "bba", "bbb"])

    def test_every_sign_refused(self):
        self.assertEqual(forms([("a", ""), ("b", "a")], "ab", 9), [""])

    def test_left_as_long_as_the_length_told(self):
        self.assertEqual(forms([("aa", "")], "a", 2), ["", "a"])
        self.assertEqual(forms([("aaa", "")], "a", 2), ["", "a", "aa"])

    def test_the_right_does_not_matter(self):
        self.assertEqual(forms([("bb", "a")], "ab", 2), ["", "a", "b", "aa", "ab", "ba"])
        self.assertEqual(forms([("bb", "ab")], "ab", 2), ["", "a", "b", "aa", "ab", "ba"])

    def test_sign_of_which_no_rule_speaks(self):
        self.assertEqual(forms([("a", "")], "az", 2), ["", "z", "zz"])
        rules = [("aa", ""), ("ba", "ab")]
        self.assertEqual(forms(rules, "abc", 4), plain_forms(rules, "abc", 4))

    def test_rule_of_a_sign_that_is_not_told(self):
        self.assertEqual(forms([("c", ""), ("ac", "b"), ("b", "a")], "ab", 2), ["", "a", "aa"])

    def test_rules_that_are_not_thin(self):
        rules = [("ab", "a"), ("ab", "b"), ("aab", ""), ("b", "")]
        self.assertEqual(forms(rules, "ab", 3), ["", "a", "aa", "aaa"])

    def test_very_great_length_where_the_list_has_an_end(self):
        for most in GREAT:
            self.assertEqual(forms([("aa", ""), ("b", "")], "ab", most), ["", "a"])
            self.assertEqual(forms([("a", "")], "a", most), [""])
            rules = [("aa", ""), ("bb", ""), ("bab", "aba")]
            self.assertEqual(forms(rules, "ab", most), ["", "a", "b", "ab", "ba", "aba"])

    def test_list_that_ends_far_behind(self):
        for most in [39, 40, 41, 1000] + GREAT:
            self.assertEqual(forms([("a" * 40, "")], "a", most), ["a" * length for length in range(40)])

    def test_forty_rules_of_forty_letters(self):
        lefts = ["".join(some) for some in itertools.product("abc", repeat=4)][:40]
        rules = [(left * 10, left) for left in lefts]
        self.assertEqual(forms(rules, "abc", 6), short_words("abc", 6))
        rules = [(left, "") for left in lefts]
        self.assertEqual(forms(rules, "abc", 7), plain_forms(rules, "abc", 7))

    def test_all_letters(self):
        letters = "abcdefghijklmnopqrstuvwxyz"
        self.assertEqual(forms([], letters, 2), short_words(letters, 2))
        self.assertEqual(forms([(letter, "") for letter in letters[1:]], letters, 3), ["", "a", "aa", "aaa"])

    def test_long_words_of_one_sign(self):
        self.assertEqual(forms([], "q", 60), ["q" * length for length in range(61)])

    def test_against_a_search_of_all_words(self):
        for pairs in some_lists(120, 3, "ab", 3, 11) + some_lists(40, 6, "abc", 4, 12):
            rules = [pair for pair in pairs if before(pair[1], pair[0])]
            for signs in ("", "a", "b", "ab", "ac", "abc"):
                for most in range(-1, 6):
                    self.assertEqual(forms(rules, signs, most), plain_forms(rules, signs, most), (rules, signs, most))

    def test_order_and_each_once(self):
        listed = forms([("aba", "b"), ("cc", "")], "abc", 6)
        for one, other in zip(listed, listed[1:]):
            self.assertTrue(before(one, other))

    def test_kinds_of_the_answer(self):
        listed = forms([("aa", "")], "ab", 3)
        self.assertIs(type(listed), list)
        self.assertEqual({type(word) for word in listed}, {str})


class HandedIn(unittest.TestCase):
    def test_rules_are_the_same_afterwards(self):
        rules = [("aa", "b"), ("ba", "ab")]
        kept = copy.deepcopy(rules)
        forms(rules, "abc", 4).clear()
        self.assertEqual(rules, kept)
        self.assertEqual(forms(rules, "abc", 4), plain_forms(kept, "abc", 4))


if __name__ == "__main__":
    unittest.main()
