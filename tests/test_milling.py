import copy
import itertools
import random
import unittest

from signmill.chains import walked
from signmill.grinding import ground
from signmill.milling import asked, milled
from signmill.words import before
from tests.plain import GREAT, plain_clashes, plain_ends, plain_ground, plain_links, plain_milled
from tests.plain import plain_steps, short_words, some_lists

ONE = [[pair] for pair in itertools.product(short_words("ab", 3), repeat=2)]
ONE_OF_THREE_SIGNS = some_lists(300, 1, "abc", 3, 31)
TWO = some_lists(600, 2, "ab", 3, 32) + some_lists(150, 2, "abc", 3, 33)
THREE = some_lists(600, 3, "ab", 3, 34) + some_lists(200, 3, "abc", 3, 35) + some_lists(50, 3, "abcdxyz", 3, 36)

# Rounds done by hand. No overlap at all:
SWAPS = [("ab", "ba")]
# aaa leads to ba and ab, and then, by ba > ab, all overlaps lead to one form.
SQUARE = [("aa", "b")]
# abb leads to b and aaa, bbb to aab and baa; in the second round aaaa to ba and ab, and baab to ab and ba.
FOURTH = [("", "ab"), ("aa", "bb")]
# ababa leads to abba and abab; each round makes longer rules of this kind.
ENDLESS = [("aba", "ab")]


class Milling(unittest.TestCase):
    def check_chain(self, pairs, one, chain, other):
        self.assertIs(type(chain), list)
        for link in chain:
            self.assertIs(type(link), tuple)
            self.assertEqual([type(part) for part in link], [int, int, bool])
        self.assertEqual(walked(pairs, one, chain), other)

    def check_milled(self, pairs, rounds, told, rules):
        answer = milled(pairs, rounds)
        self.assertIs(type(answer), tuple)
        self.assertEqual(answer[:2], (told, rules), pairs)
        chains = answer[2]
        self.assertEqual(len(answer), 3)
        self.assertIs(type(chains), list)
        self.assertEqual(len(chains), len(rules))
        for (left, right), chain in zip(rules, chains):
            self.check_chain(pairs, left, chain, right)


class ByHand(Milling):
    def test_no_pairs(self):
        for rounds in [0, 1, 2] + GREAT:
            self.check_milled([], rounds, "done", [])

    def test_pair_of_one_word_twice(self):
        for rounds in [0, 1, 2] + GREAT:
            self.check_milled([("aba", "aba")], rounds, "done", [])
            self.check_milled([("", "")], rounds, "done", [])
            self.check_milled([("b", "b"), ("ba", "ab")], rounds, "done", [("ba", "ab")])

    def test_pair_with_an_empty_word(self):
        for rounds in [0, 1, 2] + GREAT:
            self.check_milled([("", "a")], rounds, "done", [("a", "")])
            self.check_milled([("aaa", "")], rounds, "done", [("aaa", "")])
            self.check_milled([("ab", "")], rounds, "done", [("ab", "")])

    def test_done_with_no_round(self):
        for rounds in [0, 1, 2] + GREAT:
            self.check_milled(SWAPS, rounds, "done", [("ba", "ab")])

    def test_done_behind_one_round(self):
        self.check_milled(SQUARE, 0, "more", [("aa", "b")])
        for rounds in [1, 2, 3] + GREAT:
            self.check_milled(SQUARE, rounds, "done", [("aa", "b"), ("ba", "ab")])

    def test_done_behind_two_rounds(self):
        self.check_milled(FOURTH, 0, "more", [("ab", ""), ("bb", "aa")])
        self.check_milled(FOURTH, 1, "more", [("ab", ""), ("bb", "aa"), ("aaa", "b"), ("baa", "a")])
        for rounds in [2, 3, 4] + GREAT:
            self.check_milled(FOURTH, rounds, "done", [("ab", ""), ("ba", ""), ("bb", "aa"), ("aaa", "b")])

    def test_more_to_do(self):
        rules = [("aba", "ab")]
        self.check_milled(ENDLESS, 0, "more", rules)
        rules += [("abba", "abb")]
        self.check_milled(ENDLESS, 1, "more", rules)
        rules += [("abbba", "abbb"), ("abbbba", "abbbb")]
        self.check_milled(ENDLESS, 2, "more", rules)
        rules += [("ab" + "b" * more + "a", "ab" + "b" * more) for more in range(4, 8)]
        self.check_milled(ENDLESS, 3, "more", rules)

    def test_the_words_behind_an_overlap_are_added_and_not_its_word(self):
        # aba leads to ca and ab: the overlap's word itself is no longer there behind the round.
        self.check_milled([("ab", "c"), ("ba", "b")], 0, "more", [("ab", "c"), ("ba", "b")])
        self.check_milled([("ab", "c"), ("ba", "b")], 1, "more", [("ab", "c"), ("ba", "b"), ("bc", "bb"), ("ca", "c")])

    def test_rules_that_are_taken_out_by_a_round(self):
        # baab leads to ab and bb, aaba to ba and aa; in the second round baa leads to a and b.
        pairs = [("aab", "b"), ("ba", "")]
        self.check_milled(pairs, 0, "more", [("ba", ""), ("aab", "b")])
        self.check_milled(pairs, 1, "more", [("aa", ""), ("ba", ""), ("bb", "ab")])
        self.check_milled(pairs, 2, "done", [("b", "a"), ("aa", "")])

    def test_everything_falls_together(self):
        self.check_milled([("ab", "a"), ("ba", "b"), ("a", "")], 0, "done", [("a", ""), ("b", "")])


class AgainstRounds(Milling):
    def check_all(self, lists, rounds):
        told = []
        for pairs in lists:
            self.check_milled(pairs, rounds, *plain_milled(pairs, rounds))
            told.append(milled(pairs, rounds)[0])
        self.assertEqual(set(told), {"done", "more"})

    def test_one_pair(self):
        for rounds in (0, 1, 2):
            self.check_all(ONE, rounds)
            self.check_all(ONE_OF_THREE_SIGNS, rounds)

    def test_two_pairs(self):
        for rounds in (0, 1):
            self.check_all(TWO, rounds)

    def test_three_pairs(self):
        self.check_all(THREE, 0)

    def test_somewhat_beyond_the_bounds(self):
        self.check_all(TWO[:150], 2)
        self.check_all(THREE[:150], 1)
        self.check_all(some_lists(60, 1, "ab", 4, 37), 2)
        self.check_all(some_lists(60, 4, "abc", 4, 38), 0)

    def test_very_great_numbers_where_a_few_rounds_are_enough(self):
        count = 0
        for pairs in ONE[::3] + TWO[::5] + THREE[::5]:
            told, rules = plain_milled(pairs, 1)
            if told == "done":
                count += 1
                for rounds in (2, 2 ** 64, 10 ** 5000):
                    self.check_milled(pairs, rounds, told, rules)
        self.assertGreater(count, 100)

    def test_chains_do_not_grow_beyond_need(self):
        for pairs, rounds in [(pairs, 2) for pairs in ONE] + [(pairs, 1) for pairs in TWO]:
            for (left, right), chain in zip(*milled(pairs, rounds)[1:]):
                passed = [walked(pairs, left, chain[:count]) for count in range(len(chain) + 1)]
                self.assertEqual(len(set(passed)), len(passed), pairs)


class Done(unittest.TestCase):
    def setUp(self):
        self.answers = []
        for lists, rounds in ((ONE[::3], 2), (TWO[::7], 1), (THREE[::9], 0)):
            self.answers += [(pairs, milled(pairs, rounds)) for pairs in lists]
        self.done = [(pairs, answer[1]) for pairs, answer in self.answers if answer[0] == "done"]
        self.more = [(pairs, answer[1]) for pairs, answer in self.answers if answer[0] == "more"]
        self.assertGreater(len(self.done), 50)
        self.assertGreater(len(self.more), 20)

    def test_no_overlap_clashes(self):
        for pairs, rules in self.done:
            self.assertEqual(plain_clashes(rules), [])
        for pairs, rules in self.more:
            self.assertNotEqual(plain_clashes(rules), [])

    def test_the_words_of_each_pair_have_one_least_form(self):
        for pairs, rules in self.done:
            for one, other in pairs:
                self.assertEqual(ground(rules, one)[0], ground(rules, other)[0], pairs)

    def test_rules_are_thin_and_in_order(self):
        for pairs, rules in self.done:
            for number, (left, right) in enumerate(rules):
                self.assertTrue(before(right, left))
                self.assertEqual(plain_steps(rules, left), [(0, number)])
                self.assertEqual(plain_steps(rules, right), [])
            for one, other in zip(rules, rules[1:]):
                self.assertTrue(before(one[0], other[0]))

    def test_steps_in_whatever_order_lead_to_the_same_least_form(self):
        for pairs, rules in self.done:
            for word in short_words("abc", 3) + short_words("ab", 5)[-32::3] + ["babbaba", "abbaabab"]:
                self.assertEqual(plain_ends(rules, word), [ground(rules, word)[0]], pairs)

    def test_words_linked_by_the_pairs_have_one_least_form(self):
        for pairs, rules in self.done:
            for word in short_words("ab", 4):
                for reached in plain_links(pairs, word).values():
                    self.assertEqual(ground(rules, word)[0], ground(rules, reached)[0], pairs)


class Asked(Milling):
    def check_equal(self, pairs, rounds, one, other):
        answer = asked(pairs, rounds, one, other)
        self.assertIs(type(answer), tuple)
        self.assertEqual((answer[0], len(answer)), ("equal", 2), pairs)
        self.check_chain(pairs, one, answer[1], other)

    def check_against_rounds(self, pairs, rounds, one, other):
        told, rules = plain_milled(pairs, rounds)
        forms = (plain_ground(rules, one)[0], plain_ground(rules, other)[0])
        if forms[0] == forms[1]:
            self.check_equal(pairs, rounds, one, other)
            return "equal"
        expected = "apart" if told == "done" else "open"
        self.assertEqual(asked(pairs, rounds, one, other), (expected,) + forms, pairs)
        return expected

    def test_equal_with_no_round(self):
        self.check_equal(SWAPS, 0, "ba", "ab")
        self.check_equal(SWAPS, 0, "ab", "ba")
        self.check_equal(SWAPS, 0, "abab", "bbaa")
        self.check_equal(SQUARE, 0, "aab", "bb")
        self.check_equal(ENDLESS, 0, "abab", "abb")

    def test_equal_with_some_rounds(self):
        self.assertEqual(asked(SQUARE, 0, "ba", "ab"), ("open", "ba", "ab"))
        for rounds in [1, 2] + GREAT:
            self.check_equal(SQUARE, rounds, "ba", "ab")
        self.assertEqual(asked(FOURTH, 1, "ba", ""), ("open", "ba", ""))
        for rounds in [2, 3] + GREAT:
            self.check_equal(FOURTH, rounds, "ba", "")
            self.check_equal(FOURTH, rounds, "", "aaaa")

    def test_equal_where_there_is_more_to_do(self):
        self.check_equal(ENDLESS, 1, "abbab", "abbb")
        self.check_equal(ENDLESS, 2, "abbbba", "abbbb")

    def test_apart_with_no_round(self):
        self.assertEqual(asked(SWAPS, 0, "ba", "aab"), ("apart", "ab", "aab"))
        self.assertEqual(asked(SWAPS, 0, "bba", "ba"), ("apart", "abb", "ab"))
        self.assertEqual(asked([], 0, "b", "a"), ("apart", "b", "a"))

    def test_apart_with_some_rounds(self):
        for rounds in [1, 2] + GREAT:
            self.assertEqual(asked(SQUARE, rounds, "baa", "ba"), ("apart", "bb", "ab"))
            self.assertEqual(asked(SQUARE, rounds, "ba", "baa"), ("apart", "ab", "bb"))
        for rounds in [2, 3] + GREAT:
            self.assertEqual(asked(FOURTH, rounds, "bb", "bbb"), ("apart", "aa", "a"))

    def test_open_with_no_round(self):
        self.assertEqual(asked(ENDLESS, 0, "abba", "abb"), ("open", "abba", "abb"))
        self.assertEqual(asked(ENDLESS, 0, "abab", "abba"), ("open", "abb", "abba"))
        self.assertEqual(asked(ENDLESS, 0, "a", "b"), ("open", "a", "b"))

    def test_open_with_some_rounds(self):
        self.assertEqual(asked(ENDLESS, 1, "abbba", "abbab"), ("open", "abbba", "abbb"))
        self.assertEqual(asked(ENDLESS, 2, "abbab", "abbbbba"), ("open", "abbb", "abbbbba"))

    def test_one_word_with_itself(self):
        for pairs, rounds in ((SWAPS, 0), (SQUARE, 0), (SQUARE, 1), (FOURTH, 2), (ENDLESS, 2), ([], 0)):
            for word in short_words("ab", 3) + ["abbaabbabbab", "c"]:
                self.check_equal(pairs, rounds, word, word)

    def test_empty_word(self):
        self.check_equal([], 0, "", "")
        self.check_equal(ENDLESS, 1, "", "")
        self.check_equal([("a", "")], 0, "", "aa")
        self.check_equal([("a", "")], 0, "aa", "")
        self.assertEqual(asked([], 0, "", "a"), ("apart", "", "a"))
        self.assertEqual(asked(SQUARE, 0, "aa", ""), ("open", "b", ""))
        self.assertEqual(asked(SQUARE, 1, "", "aa"), ("apart", "", "b"))

    def test_signs_of_which_no_pair_speaks(self):
        self.check_equal(SQUARE, 1, "zbaz", "zabz")
        self.assertEqual(asked(SQUARE, 1, "za", "az"), ("apart", "za", "az"))

    def test_words_of_twelve_letters(self):
        self.check_equal(SWAPS, 0, "b" * 6 + "a" * 6, "ab" * 6)
        self.check_equal(SQUARE, 1, "a" * 12, "b" * 6)
        self.check_equal(FOURTH, 2, "b" * 12, "a" * 12)
        self.check_equal(ENDLESS, 2, "ab" * 5 + "bb", "a" + "b" * 7)
        self.assertEqual(asked(ENDLESS, 2, "ab" * 6, "ba" * 6), ("open", "abbbbbab", "babbbbba"))
        self.assertEqual(asked(SQUARE, 1, "ba" * 6, "ab" * 5 + "aa"), ("apart", "b" * 9, "a" + "b" * 8))

    def test_short_words_against_rounds(self):
        words = short_words("ab", 3)
        for pairs, rounds in ((SQUARE, 0), (SQUARE, 1), (FOURTH, 0), (FOURTH, 1), (FOURTH, 2), (ENDLESS, 1)):
            for one, other in itertools.product(words, repeat=2):
                self.check_against_rounds(pairs, rounds, one, other)

    def test_some_words_against_rounds(self):
        chosen = random.Random(39)
        told = {}
        for lists, rounds in ((ONE, 0), (ONE, 2), (TWO, 0), (TWO, 1), (THREE, 0)):
            for pairs in lists[::2]:
                one, other = ["".join(chosen.choices("ab", k=chosen.choice([1, 2, 4, 12]))) for word in range(2)]
                answer = self.check_against_rounds(pairs, rounds, one, other)
                told[(rounds > 0, answer)] = told.get((rounds > 0, answer), 0) + 1
        self.assertEqual(len(told), 6)
        self.assertGreater(min(told.values()), 10)

    def test_very_great_numbers_of_rounds(self):
        for pairs in ONE[::5]:
            if plain_milled(pairs, 1)[0] == "done":
                for one, other in (("abab", "baba"), ("", "bb"), ("aabb", "bba")):
                    told = asked(pairs, 1, one, other)
                    for rounds in (2 ** 64, 10 ** 5000):
                        self.assertEqual(asked(pairs, rounds, one, other), told)

    def test_kinds_of_the_forms(self):
        for answer in (asked(SQUARE, 0, "ba", "ab"), asked(SQUARE, 1, "b", "a")):
            self.assertIs(type(answer), tuple)
            self.assertEqual([type(part) for part in answer], [str, str, str])


class HandedIn(unittest.TestCase):
    def test_pairs_are_the_same_afterwards(self):
        for pairs in ONE[::7] + TWO[::9] + THREE[::9] + [[]]:
            kept = copy.deepcopy(pairs)
            milled(pairs, 1)
            asked(pairs, 1, "abab", "ba")
            asked(pairs, 0, "ab", "ab")
            self.assertEqual(pairs, kept)

    def test_an_answer_is_the_askers_own(self):
        for pairs in (SQUARE, FOURTH, []):
            kept = copy.deepcopy(pairs)
            told = copy.deepcopy(milled(pairs, 2))
            answer = milled(pairs, 2)
            for chain in answer[2]:
                chain.clear()
            answer[1].clear()
            answer[2].clear()
            self.assertEqual(pairs, kept)
            self.assertEqual(milled(pairs, 2), told)


if __name__ == "__main__":
    unittest.main()
