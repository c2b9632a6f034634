import copy
import unittest

from signmill.errors import MillError, NoStep
from signmill.grinding import ground, step, steps_of
from signmill.words import before
from tests.plain import GREAT, plain_ground, plain_step, plain_steps, short_words

RULE_LISTS = [
    [],
    [("a", "")],
    [("aa", "a")],
    [("aa", ""), ("bb", ""), ("ba", "ab")],
    [("ba", "ab"), ("ba", "a"), ("b", "a")],
    [("bab", "abb"), ("ab", "b"), ("bb", "a"), ("bbb", "")],
    [("bba", "abb"), ("baa", "aba"), ("aaaa", "b")],
    [("abab", "b"), ("bb", "aa"), ("baab", "abba")],
]


class StepsOf(unittest.TestCase):
    def test_no_rules(self):
        self.assertEqual(steps_of([], "abc"), [])
        self.assertEqual(steps_of([], ""), [])

    def test_no_step(self):
        self.assertEqual(steps_of([("ab", "a"), ("d", "c")], "bac"), [])

    def test_empty_word_has_no_step(self):
        self.assertEqual(steps_of([("a", ""), ("ab", "a")], ""), [])

    def test_left_longer_than_the_word(self):
        self.assertEqual(steps_of([("abc", "a")], "ab"), [])

    def test_several_rules_at_one_place(self):
        rules = [("abc", "b"), ("b", "a"), ("a", ""), ("ab", "a")]
        self.assertEqual(steps_of(rules, "abc"), [(0, 0), (0, 2), (0, 3), (1, 1)])

    def test_one_left_twice(self):
        self.assertEqual(steps_of([("b", "a"), ("b", "")], "ab"), [(1, 0), (1, 1)])

    def test_one_rule_at_places_that_overlap(self):
        self.assertEqual(steps_of([("aa", "a")], "aaaa"), [(0, 0), (1, 0), (2, 0)])
        self.assertEqual(steps_of([("aba", "b")], "ababa"), [(0, 0), (2, 0)])

    def test_last_place(self):
        self.assertEqual(steps_of([("c", "b")], "abc"), [(2, 0)])
        self.assertEqual(steps_of([("bc", "b")], "abc"), [(1, 0)])

    def test_order_is_by_place_and_then_by_number(self):
        rules = [("c", "b"), ("b", "a"), ("ab", "a")]
        self.assertEqual(steps_of(rules, "abcab"), [(0, 2), (1, 1), (2, 0), (3, 2), (4, 1)])

    def test_all_steps_and_no_others(self):
        for rules in RULE_LISTS:
            for word in short_words("ab", 7):
                self.assertEqual(steps_of(rules, word), plain_steps(rules, word), (rules, word))

    def test_kinds_of_the_answer(self):
        answer = steps_of([("a", "")], "aa")
        self.assertIs(type(answer), list)
        for told in answer:
            self.assertIs(type(told), tuple)

    def test_forty_rules_and_forty_letters(self):
        rules = [("a" * length, "") for length in range(1, 41)]
        expected = [(place, number) for place in range(40) for number in range(40 - place)]
        self.assertEqual(steps_of(rules, "a" * 40), expected)


class Step(unittest.TestCase):
    def refused(self, rules, word, place, number):
        for refusal in (NoStep, MillError, ValueError):
            with self.assertRaises(refusal):
                step(rules, word, place, number)
        with self.assertRaises(ValueError) as caught:
            step(rules, word, place, number)
        self.assertIs(type(caught.exception), NoStep)

    def test_first_place(self):
        self.assertEqual(step([("ab", "c")], "abab", 0, 0), "cab")

    def test_last_place(self):
        self.assertEqual(step([("ab", "c")], "abab", 2, 0), "abc")
        self.assertEqual(step([("b", "a")], "aab", 2, 0), "aaa")

    def test_place_in_the_middle(self):
        self.assertEqual(step([("ba", "ab")], "abab", 1, 0), "aabb")

    def test_whole_word(self):
        self.assertEqual(step([("abc", "z")], "abc", 0, 0), "z")

    def test_empty_right(self):
        self.assertEqual(step([("bb", "")], "abba", 1, 0), "aa")
        self.assertEqual(step([("a", "")], "a", 0, 0), "")

    def test_only_one_of_several_places_is_changed(self):
        self.assertEqual(step([("a", "")], "abaca", 2, 0), "abca")
        self.assertEqual(step([("aa", "b")], "aaaa", 1, 0), "aba")

    def test_number_tells_the_rule(self):
        rules = [("b", "a"), ("b", ""), ("bc", "bb")]
        self.assertEqual(step(rules, "abc", 1, 0), "aac")
        self.assertEqual(step(rules, "abc", 1, 1), "ac")
        self.assertEqual(step(rules, "abc", 1, 2), "abb")

    def test_no_first_step_is_asked_for(self):
        self.assertEqual(step([("b", "a"), ("bb", "b")], "bbb", 1, 1), "bb")

    def test_place_ahead_of_the_word(self):
        self.refused([("a", "")], "aaa", -1, 0)
        self.refused([("a", "")], "aaa", -3, 0)
        self.refused([("aaa", "")], "aaa", -3, 0)
        self.refused([("a", "")], "aaa", -4, 0)

    def test_the_words_length_and_beyond(self):
        self.refused([("a", "")], "aaa", 3, 0)
        self.refused([("a", "")], "aaa", 4, 0)
        self.refused([("a", "")], "aaa", 100, 0)

    def test_rule_does_not_stand_at_the_place(self):
        self.refused([("ab", "a")], "abab", 1, 0)
        self.refused([("ab", "a"), ("ba", "ab")], "abab", 0, 1)

    def test_left_reaches_beyond_the_word(self):
        self.refused([("ab", "a")], "aba", 2, 0)
        self.refused([("aaa", "a")], "aaaa", 2, 0)

    def test_empty_word_has_no_place(self):
        for place in (-1, 0, 1):
            self.refused([("a", "")], "", place, 0)

    def test_very_great_places(self):
        for size in GREAT:
            for place in (size, -size, size + 1, 1 - size):
                self.refused([("a", "")], "aaa", place, 0)

    def test_just_the_steps_are_done(self):
        for rules in RULE_LISTS:
            for word in short_words("ab", 5):
                steps = plain_steps(rules, word)
                for number in range(len(rules)):
                    for place in range(-7, 8):
                        self.one_place(rules, word, place, number, (place, number) in steps)

    def one_place(self, rules, word, place, number, stands):
        if stands:
            behind = step(rules, word, place, number)
            self.assertEqual(behind, plain_step(rules, word, place, number))
            self.assertTrue(before(behind, word))
        else:
            with self.assertRaises(NoStep):
                step(rules, word, place, number)


class Ground(unittest.TestCase):
    def leads(self, rules, word, form, count):
        answer, steps = ground(rules, word)
        self.assertEqual(answer, form)
        self.assertEqual(len(steps), count)
        for place, number in steps:
            self.assertEqual(steps_of(rules, word)[0], (place, number))
            word = step(rules, word, place, number)
        self.assertEqual(word, form)
        self.assertEqual(steps_of(rules, form), [])

    def test_no_step(self):
        self.assertEqual(ground([("ab", "a")], "ba"), ("ba", []))
        self.assertEqual(ground([], "abc"), ("abc", []))
        self.assertEqual(ground([], ""), ("", []))
        self.assertEqual(ground([("a", "")], ""), ("", []))

    def test_least_place_comes_first(self):
        self.assertEqual(ground([("c", "b"), ("a", "")], "ac"), ("b", [(0, 1), (0, 0)]))
        self.assertEqual(ground([("ab", "c"), ("ba", "d")], "aba"), ("ca", [(0, 0)]))
        self.assertEqual(ground([("ba", "d"), ("ab", "c")], "aba"), ("ca", [(0, 1)]))

    def test_least_number_comes_first_at_one_place(self):
        self.assertEqual(ground([("ab", "c"), ("a", "")], "ab"), ("c", [(0, 0)]))
        self.assertEqual(ground([("a", ""), ("ab", "c")], "ab"), ("b", [(0, 0)]))
        self.assertEqual(ground([("c", "b"), ("c", "a")], "cc"), ("bb", [(0, 0), (1, 0)]))

    def test_step_behind_which_a_rule_stands_further_ahead(self):
        self.assertEqual(ground([("c", "b"), ("aab", "")], "aac"), ("", [(2, 0), (0, 1)]))
        self.assertEqual(ground([("cc", ""), ("ab", "")], "aaccbb"), ("", [(2, 0), (1, 1), (0, 1)]))

    def test_step_that_makes_the_same_rule_stand_again(self):
        self.assertEqual(ground([("aa", "a")], "aaaa"), ("a", [(0, 0), (0, 0), (0, 0)]))

    def test_step_down_to_the_empty_word(self):
        self.assertEqual(ground([("ab", "")], "aabb"), ("", [(1, 0), (0, 0)]))

    def test_all_short_words(self):
        for rules in RULE_LISTS:
            for word in short_words("ab", 8):
                self.assertEqual(ground(rules, word), plain_ground(rules, word), (rules, word))

    def test_steps_told_lead_to_the_form_told(self):
        for rules in RULE_LISTS:
            for word in ("abba" * 5, "babab" * 4, "b" * 13 + "a" * 7):
                form, steps = plain_ground(rules, word)
                self.leads(rules, word, form, len(steps))

    def test_forty_letters(self):
        self.leads([("ba", "ab")], "b" * 20 + "a" * 20, "a" * 20 + "b" * 20, 400)
        self.leads([("ab", "")], "a" * 20 + "b" * 20, "", 20)
        self.leads([("aa", "a")], "a" * 40, "a", 39)
        self.leads([("a" * 40, "b" * 39)], "a" * 40, "b" * 39, 1)
        self.leads([("ba", "ab"), ("ca", "ac"), ("cb", "bc")], "cba" * 13 + "c", "a" * 13 + "b" * 13 + "c" * 14, 273)

    def test_more_than_forty_letters(self):
        self.leads([("ba", "ab")], "b" * 25 + "a" * 25, "a" * 25 + "b" * 25, 625)

    def test_very_many_steps(self):
        counter = [("b" + "a" * k + "e", "a" + "b" * k + "e") for k in range(12)]
        form, steps = ground(counter, "b" * 12 + "e")
        self.assertEqual(form, "a" * 12 + "e")
        self.assertEqual(len(steps), 2 ** 12 - 1)

    def test_kinds_of_the_answer(self):
        for word in ("b", "aa"):
            answer = ground([("a", "")], word)
            self.assertIs(type(answer), tuple)
            self.assertIs(type(answer[1]), list)
            for told in answer[1]:
                self.assertIs(type(told), tuple)


class HandedIn(unittest.TestCase):
    def test_rules_are_the_same_afterwards(self):
        for rules in RULE_LISTS:
            kept = copy.deepcopy(rules)
            for word in ("", "ab", "abbaabab"):
                ground(rules, word)
                for place, number in steps_of(rules, word):
                    step(rules, word, place, number)
                for number in range(len(rules)):
                    with self.assertRaises(NoStep):
                        step(rules, word, len(word), number)
            self.assertEqual(rules, kept)

    def test_an_answer_is_the_askers_own(self):
        rules = [("a", "")]
        steps_of(rules, "aa").clear()
        ground(rules, "aa")[1].clear()
        ground(rules, "b")[1].append("mark")
        self.assertEqual(steps_of(rules, "aa"), [(0, 0), (1, 0)])
        self.assertEqual(ground(rules, "aa"), ("", [(0, 0), (0, 0)]))
        self.assertEqual(ground(rules, "b"), ("b", []))


if __name__ == "__main__":
    unittest.main()
