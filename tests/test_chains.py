import copy
import unittest

from signmill.chains import moved, shortened, turned, walked
from signmill.errors import MillError, NoChain
from tests.plain import GREAT, plain_links, short_words

PAIRS = [("ab", "c"), ("", "ba"), ("c", ""), ("a", "a"), ("aba", "b"), ("", "")]


def some_chains(pairs, word, length):
    chains = [([], word)]
    for count in range(length):
        longer = []
        for chain, reached in chains:
            for link, behind in plain_links(pairs, reached).items():
                longer.append((chain + [link], behind))
        chains = longer[::max(1, len(longer) // 200)]
    return chains


class Walked(unittest.TestCase):
    def refused(self, pairs, word, chain):
        for refusal in (NoChain, MillError, ValueError):
            with self.assertRaises(refusal):
                walked(pairs, word, chain)
        with self.assertRaises(ValueError) as caught:
            walked(pairs, word, chain)
        self.assertIs(type(caught.exception), NoChain)

    def test_empty_chain(self):
        self.assertEqual(walked([("a", "b")], "aba", []), "aba")
        self.assertEqual(walked([("a", "b")], "", []), "")
        self.assertEqual(walked([], "abc", []), "abc")

    def test_link_forth(self):
        self.assertEqual(walked([("ab", "c")], "abab", [(0, 0, True)]), "cab")
        self.assertEqual(walked([("ab", "c")], "abab", [(0, 2, True)]), "abc")
        self.assertEqual(walked([("ab", "ba")], "aabb", [(0, 1, True)]), "abab")

    def test_link_back(self):
        self.assertEqual(walked([("ab", "c")], "acc", [(0, 1, False)]), "aabc")
        self.assertEqual(walked([("ab", "c")], "acc", [(0, 2, False)]), "acab")

    def test_pair_that_is_no_rule(self):
        self.assertEqual(walked([("a", "bcd")], "aa", [(0, 1, True)]), "abcd")
        self.assertEqual(walked([("a", "bcd")], "abcd", [(0, 1, False)]), "aa")

    def test_pair_of_one_word_twice(self):
        self.assertEqual(walked([("ab", "ab")], "aab", [(0, 1, True), (0, 1, False)]), "aab")
        self.refused([("ab", "ab")], "aab", [(0, 0, True)])

    def test_the_number_tells_the_pair(self):
        pairs = [("a", "x"), ("a", "y"), ("a", "z")]
        for number, pair in enumerate(pairs):
            self.assertEqual(walked(pairs, "bab", [(number, 1, True)]), "b" + pair[1] + "b")

    def test_empty_word_stands_everywhere(self):
        self.assertEqual(walked([("", "x")], "abc", [(0, 0, True)]), "xabc")
        self.assertEqual(walked([("", "x")], "abc", [(0, 1, True)]), "axbc")
        self.assertEqual(walked([("", "x")], "abc", [(0, 3, True)]), "abcx")
        self.assertEqual(walked([("x", "")], "abc", [(0, 0, False)]), "xabc")
        self.assertEqual(walked([("x", "")], "abc", [(0, 2, False)]), "abxc")
        self.assertEqual(walked([("x", "")], "abc", [(0, 3, False)]), "abcx")
        self.assertEqual(walked([("", "x")], "", [(0, 0, True)]), "x")

    def test_pair_of_empty_words(self):
        for place in range(4):
            self.assertEqual(walked([("", "")], "abc", [(0, place, True), (0, place, False)]), "abc")
        self.refused([("", "")], "abc", [(0, 4, True)])
        self.refused([("", "")], "abc", [(0, -1, False)])

    def test_empty_word_does_not_stand_beyond_the_length(self):
        for place in (-1, -3, -4, 4, 5):
            self.refused([("", "x")], "abc", [(0, place, True)])
            self.refused([("x", "")], "abc", [(0, place, False)])
        self.refused([("", "x")], "", [(0, 1, True)])
        self.refused([("", "x")], "", [(0, -1, True)])

    def test_change_for_the_empty_word(self):
        self.assertEqual(walked([("ab", "")], "cabd", [(0, 1, True)]), "cd")
        self.assertEqual(walked([("", "a")], "a", [(0, 0, False)]), "")

    def test_several_links(self):
        chain = [(0, 0, True), (1, 1, True), (1, 3, False), (2, 1, False)]
        self.assertEqual(walked([("ab", "c"), ("", "ba"), ("d", "b")], "abba", chain), "cda")

    def test_later_links_see_what_earlier_ones_made(self):
        pairs = [("a", "bb"), ("bbb", "c")]
        self.assertEqual(walked(pairs, "ab", [(0, 0, True), (1, 0, True)]), "c")
        self.refused(pairs, "ab", [(1, 0, True), (0, 0, True)])

    def test_number_that_is_none_of_a_pair(self):
        for number in (-1, -2, -3, 2, 3, 100):
            for forth in (True, False):
                self.refused([("a", "a"), ("a", "a")], "aaa", [(number, 0, forth)])

    def test_no_pairs(self):
        for number in (-1, 0, 1):
            self.refused([], "aaa", [(number, 0, True)])
            self.refused([], "", [(number, 0, False)])

    def test_very_great_numbers(self):
        for size in GREAT:
            for number in (size, -size, size + 1, 1 - size):
                self.refused([("a", "b")], "a", [(number, 0, True)])
                self.refused([("", "b")], "a", [(number, 0, True)])

    def test_very_great_places(self):
        for size in GREAT:
            for place in (size, -size, size + 1, 1 - size):
                self.refused([("a", "b")], "a", [(0, place, True)])
                self.refused([("b", "")], "a", [(0, place, False)])
                self.refused([("", "b")], "", [(0, place, True)])

    def test_very_great_number_and_place(self):
        for size in GREAT:
            self.refused([("a", "b")], "a", [(size, size, True)])
            self.refused([("a", "b")], "a", [(-size, -size, False)])

    def test_place_ahead_of_the_word(self):
        self.refused([("a", "b")], "aaa", [(0, -1, True)])
        self.refused([("aaa", "b")], "aaa", [(0, -3, True)])
        self.refused([("b", "a")], "aaa", [(0, -1, False)])

    def test_one_beyond_the_last_place(self):
        self.refused([("ab", "b")], "abab", [(0, 3, True)])
        self.refused([("a", "b")], "aaa", [(0, 3, True)])
        self.refused([("aa", "b")], "aaa", [(0, 2, True)])

    def test_word_does_not_stand_at_the_place(self):
        self.refused([("ab", "c")], "abab", [(0, 1, True)])
        self.refused([("ab", "c")], "abab", [(0, 0, False)])
        self.refused([("ab", "c")], "cc", [(0, 0, True)])
        self.refused([("abc", "c")], "ab", [(0, 0, True)])

    def test_link_in_the_midst_of_a_chain(self):
        pairs = [("a", "b"), ("", "c")]
        for wrong in ((0, 0, True), (2, 0, True), (-1, 0, True), (1, 2, True), (1, -1, True)):
            self.refused(pairs, "a", [(0, 0, True), wrong, (0, 0, False)])
        self.assertEqual(walked(pairs, "a", [(0, 0, True), (0, 0, False)]), "a")

    def test_last_link_is_looked_at(self):
        self.refused([("a", "b")], "a", [(0, 0, True), (0, 0, False), (0, 0, False)])

    def test_just_the_links_are_done(self):
        for word in short_words("abc", 3) + ["abab", "ccba"]:
            links = plain_links(PAIRS, word)
            for number in range(-7, 9):
                for place in range(-6, 8):
                    for forth in (True, False):
                        self.one_link(word, (number, place, forth), links)

    def one_link(self, word, link, links):
        if link in links:
            self.assertEqual(walked(PAIRS, word, [link]), links[link], (word, link))
        else:
            with self.assertRaises(NoChain, msg=(word, link)):
                walked(PAIRS, word, [link])

    def test_chains_of_some_links(self):
        for word in ("", "ab", "cab", "abababab"):
            for length in range(5):
                for chain, reached in some_chains(PAIRS, word, length):
                    self.assertEqual(walked(PAIRS, word, chain), reached)

    def test_long_chain_from_nine_letters(self):
        chain = [(0, 9, True)] * 1000
        self.assertEqual(walked([("", "ba")], "abcabcabc", chain), "abcabcabc" + "ba" * 1000)

    def test_hundred_pairs_and_forty_letters(self):
        pairs = [("a" * 40, "b" * 40)] * 99 + [("a" * 40, "c" * 40)]
        self.assertEqual(walked(pairs, "a" * 40, [(99, 0, True)]), "c" * 40)
        self.refused(pairs, "a" * 40, [(100, 0, True)])


class Turned(unittest.TestCase):
    def test_empty_chain(self):
        self.assertEqual(turned([]), [])

    def test_one_link(self):
        self.assertEqual(turned([(3, 5, True)]), [(3, 5, False)])
        self.assertEqual(turned([(3, 5, False)]), [(3, 5, True)])

    def test_several_links(self):
        chain = [(0, 1, True), (2, 0, False), (1, 4, True)]
        self.assertEqual(turned(chain), [(1, 4, False), (2, 0, True), (0, 1, False)])

    def test_turned_twice(self):
        chain = [(0, 1, True), (2, 0, False), (0, 1, True)]
        self.assertEqual(turned(turned(chain)), chain)

    def test_leads_back(self):
        for word in ("", "ab", "cab", "abababab"):
            for length in range(5):
                for chain, reached in some_chains(PAIRS, word, length):
                    self.assertEqual(walked(PAIRS, reached, turned(chain)), word)

    def test_kinds_of_the_answer(self):
        answer = turned([(0, 1, True), (2, 0, False)])
        self.assertIs(type(answer), list)
        for link in answer:
            self.assertIs(type(link), tuple)
            self.assertEqual([type(part) for part in link], [int, int, bool])

    def test_any_whole_numbers(self):
        great = 10 ** 5000
        self.assertEqual(turned([(-1, great, True), (great, -1, False)]), [(great, -1, True), (-1, great, False)])


class Moved(unittest.TestCase):
    def test_leads_the_same_way_within_a_longer_word(self):
        for word in ("", "ab", "cab"):
            for length in range(4):
                for chain, reached in some_chains(PAIRS, word, length):
                    self.assertEqual(walked(PAIRS, "bb" + word + "a", moved(chain, 2)), "bb" + reached + "a")

    def test_links(self):
        self.assertEqual(moved([], 3), [])
        self.assertEqual(moved([(1, 2, True), (0, 0, False)], 3), [(1, 5, True), (0, 3, False)])


class Shortened(unittest.TestCase):
    def test_empty_chain(self):
        self.assertEqual(shortened(PAIRS, "ab", []), [])

    def test_chain_without_a_word_twice(self):
        chain = [(0, 0, True), (1, 1, True), (2, 0, True)]
        self.assertEqual(shortened(PAIRS, "ab", chain), chain)

    def test_there_and_back_is_left_out(self):
        chain = [(0, 0, True), (1, 1, True)]
        self.assertEqual(shortened(PAIRS, "ab", chain + turned(chain)), [])
        self.assertEqual(shortened(PAIRS, "ab", chain + [(1, 1, False), (2, 0, True)]), [(0, 0, True), (2, 0, True)])

    def test_links_that_change_nothing_are_left_out(self):
        chain = [(3, 0, True), (5, 1, False), (0, 0, True), (5, 0, True)]
        self.assertEqual(shortened(PAIRS, "ab", chain), [(0, 0, True)])

    def test_leads_to_the_same_word_and_to_none_twice(self):
        for word in short_words("abc", 2):
            for chain, reached in some_chains(PAIRS, word, 6):
                short = shortened(PAIRS, word, chain)
                passed = [walked(PAIRS, word, short[:count]) for count in range(len(short) + 1)]
                self.assertEqual(passed[-1], reached)
                self.assertEqual(len(set(passed)), len(passed))


class HandedIn(unittest.TestCase):
    def test_pairs_and_chain_are_the_same_afterwards(self):
        for word in ("", "ab", "cab"):
            for chain, reached in some_chains(PAIRS, word, 3):
                pairs = copy.deepcopy(PAIRS)
                kept = copy.deepcopy(chain)
                walked(pairs, word, chain)
                turned(chain)
                moved(chain, 1)
                shortened(pairs, word, chain)
                with self.assertRaises(NoChain):
                    walked(pairs, word, chain + [(-1, 0, True)])
                self.assertEqual(pairs, PAIRS)
                self.assertEqual(chain, kept)

    def test_an_answer_is_the_askers_own(self):
        chain = [(0, 1, True)]
        turned(chain).clear()
        moved(chain, 0).clear()
        shortened([("a", "b")], "aa", chain).clear()
        self.assertEqual(chain, [(0, 1, True)])
        none = []
        turned(none).append("mark")
        self.assertEqual(none, [])


if __name__ == "__main__":
    unittest.main()
