import copy
import itertools
import unittest

from signmill.chains import walked
from signmill.grinding import steps_of
from signmill.overlaps import overlaps
from signmill.settling import clashes, equations_of, rules_of, settled, words_behind
from signmill.words import before
from tests.plain import plain_ground, plain_settled, plain_step, short_words, some_lists

TWO_LETTERS = short_words("ab", 2)


class WordsBehind(unittest.TestCase):
    def test_lefts_that_reach_beyond_one_another(self):
        rules = [("ab", "c"), ("ba", "d")]
        self.assertEqual(words_behind(rules, ("aba", 0, 1, 1)), ("ca", "ad"))
        self.assertEqual(words_behind(rules, ("bab", 1, 0, 1)), ("db", "bc"))

    def test_left_within_another(self):
        self.assertEqual(words_behind([("aba", "c"), ("b", "")], ("aba", 0, 1, 1)), ("c", "aa"))

    def test_rule_with_itself(self):
        self.assertEqual(words_behind([("aa", "b")], ("aaa", 0, 0, 1)), ("ba", "ab"))

    def test_the_words_are_not_ground(self):
        rules = [("a", ""), ("bb", "a"), ("bba", "ab")]
        self.assertEqual(words_behind(rules, ("bba", 2, 1, 0)), ("ab", "aa"))

    def test_all_overlaps_of_some_rules(self):
        for pairs in some_lists(60, 3, "ab", 3, 1):
            rules = [pair for pair in pairs if before(pair[1], pair[0])]
            for overlap in overlaps(rules):
                word, first, second, place = overlap
                expected = (plain_step(rules, word, 0, first), plain_step(rules, word, place, second))
                self.assertEqual(words_behind(rules, overlap), expected)


class Clashes(unittest.TestCase):
    def test_two_least_forms(self):
        self.assertIs(clashes([("aa", "b")], ("aaa", 0, 0, 1)), True)
        self.assertIs(clashes([("ab", "c"), ("ba", "d")], ("aba", 0, 1, 1)), True)

    def test_one_word(self):
        self.assertIs(clashes([("aa", "a")], ("aaa", 0, 0, 1)), False)
        self.assertIs(clashes([("aa", "")], ("aaa", 0, 0, 1)), False)

    def test_two_words_with_one_least_form(self):
        rules = [("aba", "ca"), ("b", ""), ("c", "a")]
        self.assertEqual(words_behind(rules, ("aba", 0, 1, 1)), ("ca", "aa"))
        self.assertIs(clashes(rules, ("aba", 0, 1, 1)), False)

    def test_forms_are_those_by_all_the_rules(self):
        self.assertIs(clashes([("aa", "b")], ("aaa", 0, 0, 1)), True)
        self.assertIs(clashes([("aa", "b"), ("ba", "ab")], ("aaa", 0, 0, 1)), False)

    def test_two_rules_with_the_same_left(self):
        self.assertIs(clashes([("ab", "a"), ("ab", "b")], ("ab", 0, 1, 0)), True)
        self.assertIs(clashes([("ab", "a"), ("ab", "a")], ("ab", 0, 1, 0)), False)

    def test_all_overlaps_of_some_rules(self):
        told = []
        for pairs in some_lists(100, 3, "ab", 3, 2):
            rules = [pair for pair in pairs if before(pair[1], pair[0])]
            for overlap in overlaps(rules):
                word, first, second, place = overlap
                one = plain_ground(rules, plain_step(rules, word, 0, first))[0]
                other = plain_ground(rules, plain_step(rules, word, place, second))[0]
                self.assertIs(clashes(rules, overlap), one != other)
                told.append(one != other)
        self.assertEqual(set(told), {True, False})


class Settled(unittest.TestCase):
    def rules(self, pairs):
        equations = settled(equations_of(pairs))
        for left, right, chain in equations:
            self.assertEqual(walked(pairs, left, chain), right)
        return rules_of(equations)

    def test_no_pairs(self):
        self.assertEqual(self.rules([]), [])

    def test_pair_of_one_word_twice(self):
        self.assertEqual(self.rules([("ab", "ab")]), [])
        self.assertEqual(self.rules([("", "")]), [])
        self.assertEqual(self.rules([("a", "a"), ("b", ""), ("a", "a")]), [("b", "")])

    def test_the_later_word_is_on_the_left(self):
        self.assertEqual(self.rules([("ab", "ba")]), [("ba", "ab")])
        self.assertEqual(self.rules([("ba", "ab")]), [("ba", "ab")])
        self.assertEqual(self.rules([("z", "aa")]), [("aa", "z")])
        self.assertEqual(self.rules([("", "a")]), [("a", "")])

    def test_pair_that_is_already_one_form(self):
        self.assertEqual(self.rules([("a", ""), ("aab", "ba")]), [("a", "")])
        self.assertEqual(self.rules([("ba", "ab"), ("bba", "abb")]), [("ba", "ab")])
        self.assertEqual(self.rules([("ab", "a"), ("ab", "a"), ("a", "ab")]), [("ab", "a")])

    def test_forms_make_the_rule_and_not_the_words(self):
        self.assertEqual(self.rules([("aa", "a"), ("baa", "ac")]), [("aa", "a"), ("ba", "ac")])
        self.assertEqual(self.rules([("c", ""), ("cab", "bac")]), [("c", ""), ("ba", "ab")])

    def test_grinding_can_make_the_first_word_the_earlier_one(self):
        self.assertEqual(self.rules([("aaa", ""), ("baaa", "ca")]), [("ca", "b"), ("aaa", "")])

    def test_order_of_the_rules(self):
        self.assertEqual(self.rules([("b", ""), ("a", "")]), [("a", ""), ("b", "")])
        self.assertEqual(self.rules([("aa", ""), ("b", "")]), [("b", ""), ("aa", "")])
        pairs = [("ccc", ""), ("bab", ""), ("ca", "")]
        self.assertEqual(self.rules(pairs), [("ca", ""), ("bab", ""), ("ccc", "")])

    def test_left_taken_out_wherever_the_new_left_stands(self):
        self.assertEqual(self.rules([("ab", ""), ("a", "")]), [("a", ""), ("b", "")])
        self.assertEqual(self.rules([("ab", ""), ("b", "")]), [("a", ""), ("b", "")])
        self.assertEqual(self.rules([("cac", ""), ("a", "")]), [("a", ""), ("cc", "")])
        self.assertEqual(self.rules([("aa", ""), ("a", "")]), [("a", "")])

    def test_rule_is_not_taken_out_for_its_right(self):
        self.assertEqual(self.rules([("ba", "aa"), ("aa", ""), ("baa", "a")]), [("aa", ""), ("ba", "")])

    def test_what_is_taken_out_comes_behind_all_that_is_still_to_do(self):
        # Taken ahead of the last pair, ("aaa", "") would make ("ba", "") first, and in the end a and b fall away.
        pairs = [("aaa", ""), ("aa", "b"), ("baa", "")]
        self.assertEqual(self.rules(pairs), [("aa", "b"), ("ba", ""), ("bb", "")])

    def test_several_taken_out_come_in_their_order(self):
        # Taken the other way round, they would leave ("aa", "b"), ("ba", "") and ("bb", "").
        pairs = [("aaa", ""), ("baa", ""), ("aa", "b")]
        self.assertEqual(self.rules(pairs), [("a", ""), ("b", "")])

    def test_order_of_those_taken_out_is_that_of_the_rules(self):
        pairs = [("baa", ""), ("aaa", ""), ("aa", "b")]
        self.assertEqual(self.rules(pairs), [("a", ""), ("b", "")])

    def test_rights_are_ground(self):
        self.assertEqual(self.rules([("b", "a"), ("a", "")]), [("a", ""), ("b", "")])
        self.assertEqual(self.rules([("bb", "a"), ("a", ""), ("cc", "aa")]), [("a", ""), ("bb", ""), ("cc", "")])

    def test_rights_are_ground_by_the_rules_as_they_were_put_in(self):
        # By ("ba", "b"), as that rule stands in the end, the last right would be ground to ab.
        pairs = [("abb", "aba"), ("ba", "aa"), ("aa", "b")]
        self.assertEqual(self.rules(pairs), [("aa", "b"), ("ba", "b"), ("abb", "b")])

    def test_all_lists_of_two_pairs_of_two_letters(self):
        for one, other, third, fourth in itertools.product(TWO_LETTERS, repeat=4):
            pairs = [(one, other), (third, fourth)]
            self.assertEqual(self.rules(pairs), plain_settled(pairs), pairs)

    def test_some_longer_lists(self):
        lists = some_lists(1500, 3, "ab", 3, 3) + some_lists(500, 4, "abc", 3, 4) + some_lists(200, 8, "abcd", 4, 5)
        for pairs in lists:
            self.assertEqual(self.rules(pairs), plain_settled(pairs), pairs)

    def test_what_comes_of_it_is_thin_and_in_order(self):
        for pairs in some_lists(500, 4, "abc", 4, 6):
            rules = self.rules(pairs)
            for number, (left, right) in enumerate(rules):
                self.assertTrue(before(right, left))
                self.assertEqual(steps_of(rules, left), [(0, number)])
            for one, other in zip(rules, rules[1:]):
                self.assertTrue(before(one[0], other[0]))

    def test_settled_once_more(self):
        for pairs in some_lists(300, 3, "ab", 3, 7):
            once = settled(equations_of(pairs))
            again = settled(once)
            self.assertEqual(rules_of(again), plain_settled(rules_of(once)))
            for left, right, chain in again:
                self.assertEqual(walked(pairs, left, chain), right)

    def test_chains_of_what_is_handed_in_are_kept_to(self):
        pairs = [("ab", "b"), ("bb", "c")]
        equations = [("abb", "c", [(0, 0, True), (1, 0, True)]), ("cc", "bbc", [(1, 0, False)])]
        answer = settled(equations)
        self.assertEqual(rules_of(answer), plain_settled([("abb", "c"), ("cc", "bbc")]))
        for left, right, chain in answer:
            self.assertEqual(walked(pairs, left, chain), right)


class Equations(unittest.TestCase):
    def test_each_pair_is_shown_by_itself(self):
        pairs = [("ab", "a"), ("", "b"), ("c", "c")]
        equations = equations_of(pairs)
        self.assertEqual(rules_of(equations), pairs)
        for one, other, chain in equations:
            self.assertEqual(walked(pairs, one, chain), other)
        self.assertEqual([chain[0][0] for one, other, chain in equations], [0, 1, 2])

    def test_none(self):
        self.assertEqual(equations_of([]), [])
        self.assertEqual(rules_of([]), [])


class HandedIn(unittest.TestCase):
    def test_rules_and_overlaps_are_the_same_afterwards(self):
        rules = [("aa", "b"), ("aba", "ab"), ("b", "")]
        kept = copy.deepcopy(rules)
        for overlap in overlaps(rules):
            words_behind(rules, overlap)
            clashes(rules, overlap)
        self.assertEqual(rules, kept)

    def test_pairs_and_equations_are_the_same_afterwards(self):
        for pairs in some_lists(200, 4, "ab", 3, 8):
            kept = copy.deepcopy(pairs)
            equations = equations_of(pairs)
            self.assertEqual(pairs, kept)
            shown = copy.deepcopy(equations)
            for one, other, chain in settled(equations):
                chain.clear()
            rules_of(equations).clear()
            self.assertEqual(equations, shown)


if __name__ == "__main__":
    unittest.main()
