import copy
import itertools
import unittest

from signmill.overlaps import overlaps
from tests.plain import plain_overlaps, short_words

LEFTS = short_words("ab", 4)[1:]


def searched(one, other, own):
    found = []
    for word in short_words("ab", len(one) + len(other) - 1):
        for place in range(1 if own else 0, len(one)):
            ends = max(len(one), place + len(other))
            if len(word) == ends and word[:len(one)] == one and word[place:place + len(other)] == other:
                found.append((place, word))
    return sorted(found)


class Overlaps(unittest.TestCase):
    def test_no_rules(self):
        self.assertEqual(overlaps([]), [])

    def test_examples_of_the_document(self):
        self.assertEqual(overlaps([("ab", ""), ("ba", "")]), [("aba", 0, 1, 1), ("bab", 1, 0, 1)])
        self.assertEqual(overlaps([("aba", ""), ("b", "")]), [("ababa", 0, 0, 2), ("aba", 0, 1, 1)])
        self.assertEqual(overlaps([("aa", "")]), [("aaa", 0, 0, 1)])

    def test_rules_without_signs_in_common(self):
        self.assertEqual(overlaps([("ab", "a"), ("cd", "c")]), [])
        self.assertEqual(overlaps([("a", ""), ("b", "")]), [])

    def test_rule_with_itself_is_not_laid_at_nought(self):
        self.assertEqual(overlaps([("a", "")]), [])
        self.assertEqual(overlaps([("ab", "")]), [])
        self.assertEqual(overlaps([("aaa", "")]), [("aaaa", 0, 0, 1), ("aaaaa", 0, 0, 2)])
        self.assertEqual(overlaps([("abab", "")]), [("ababab", 0, 0, 2)])

    def test_two_rules_with_the_same_left(self):
        self.assertEqual(overlaps([("ab", "a"), ("ab", "b")]), [("ab", 0, 1, 0), ("ab", 1, 0, 0)])
        self.assertEqual(overlaps([("a", ""), ("a", "")]), [("a", 0, 1, 0), ("a", 1, 0, 0)])
        self.assertEqual(overlaps([("aa", "a"), ("aa", "")]), [
            ("aaa", 0, 0, 1), ("aa", 0, 1, 0), ("aaa", 0, 1, 1),
            ("aa", 1, 0, 0), ("aaa", 1, 0, 1), ("aaa", 1, 1, 1),
        ])

    def test_left_at_the_beginning_of_another(self):
        self.assertEqual(overlaps([("abc", ""), ("ab", "")]), [("abc", 0, 1, 0), ("abc", 1, 0, 0)])

    def test_left_within_another(self):
        self.assertEqual(overlaps([("abcd", ""), ("bc", "")]), [("abcd", 0, 1, 1)])

    def test_left_at_the_end_of_another(self):
        self.assertEqual(overlaps([("abc", ""), ("bc", "")]), [("abc", 0, 1, 1)])
        self.assertEqual(overlaps([("abc", ""), ("c", "")]), [("abc", 0, 1, 2)])

    def test_left_at_several_places_of_another(self):
        self.assertEqual(overlaps([("bab", "b"), ("b", "a")]), [
            ("babab", 0, 0, 2), ("bab", 0, 1, 0), ("bab", 0, 1, 2), ("bab", 1, 0, 0),
        ])

    def test_last_sign_is_a_place(self):
        self.assertEqual(overlaps([("abc", ""), ("cde", "")]), [("abcde", 0, 1, 2)])

    def test_behind_the_last_sign_is_no_place(self):
        self.assertEqual(overlaps([("abc", ""), ("def", "")]), [])

    def test_rights_do_not_matter(self):
        self.assertEqual(overlaps([("ab", "aa"), ("ba", "ab")]), overlaps([("ab", ""), ("ba", "")]))

    def test_order_is_by_first_then_second_then_place(self):
        for lefts in itertools.product(("b", "aa", "aba", "bab", "aaaa"), repeat=3):
            told = [(first, second, place) for word, first, second, place in overlaps([(left, "") for left in lefts])]
            self.assertEqual(told, sorted(told))
            self.assertEqual(len(told), len(set(told)))

    def test_all_overlaps_and_no_others_of_two_rules(self):
        for one in LEFTS:
            for other in LEFTS:
                rules = [(one, ""), (other, "")]
                self.assertEqual(overlaps(rules), plain_overlaps(rules), rules)

    def test_all_words_in_which_both_stand(self):
        for one in short_words("ab", 3)[1:]:
            for other in short_words("ab", 3)[1:]:
                expected = []
                for first, second in itertools.product((0, 1), repeat=2):
                    lefts = ((one, other)[first], (one, other)[second])
                    for place, word in searched(lefts[0], lefts[1], first == second):
                        expected.append((word, first, second, place))
                self.assertEqual(overlaps([(one, ""), (other, "")]), expected, (one, other))

    def test_more_rules(self):
        for start in range(0, len(LEFTS), 3):
            rules = [(left, "") for left in LEFTS[start:] + LEFTS[:start]]
            self.assertEqual(overlaps(rules), plain_overlaps(rules))

    def test_forty_rules_of_forty_letters(self):
        rules = [("ab" * 20, "a" * number) for number in range(40)]
        answer = overlaps(rules)
        self.assertEqual(answer, plain_overlaps(rules))
        self.assertEqual(len(answer), 40 * 40 * 20 - 40)
        rules = [("a" * length, "") for length in range(1, 43)]
        self.assertEqual(overlaps(rules), plain_overlaps(rules))

    def test_kinds_of_the_answer(self):
        answer = overlaps([("aa", ""), ("ab", "")])
        self.assertIs(type(answer), list)
        self.assertEqual(len(answer), 2)
        for told in answer:
            self.assertIs(type(told), tuple)
            self.assertEqual([type(part) for part in told], [str, int, int, int])


class HandedIn(unittest.TestCase):
    def test_rules_are_the_same_afterwards(self):
        rules = [("aa", "b"), ("aba", "ab"), ("b", ""), ("b", "")]
        kept = copy.deepcopy(rules)
        overlaps(rules).clear()
        self.assertEqual(rules, kept)
        self.assertEqual(overlaps(rules), plain_overlaps(kept))


if __name__ == "__main__":
    unittest.main()
