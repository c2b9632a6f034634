import itertools
import unittest

from signmill.words import before, changed, stands


class Before(unittest.TestCase):
    def told(self, one, other, answer):
        self.assertIs(before(one, other), answer, (one, other))

    def test_shorter_word_is_before_longer_one(self):
        self.told("z", "aa", True)
        self.told("aa", "z", False)
        self.told("a", "ab", True)
        self.told("ab", "a", False)

    def test_equally_long_words_stand_as_texts(self):
        self.told("ab", "ba", True)
        self.told("ba", "ab", False)
        self.told("aay", "aaz", True)
        self.told("aaz", "aay", False)

    def test_no_word_is_before_itself(self):
        for word in ("", "a", "z", "abc", "q" * 40):
            self.told(word, word, False)

    def test_empty_word_is_before_all_others(self):
        self.told("", "a", True)
        self.told("a", "", False)
        self.told("", "z" * 40, True)

    def test_long_words(self):
        self.told("a" * 39 + "b", "a" * 39 + "c", True)
        self.told("b" + "a" * 39, "a" + "z" * 39, False)
        self.told("z" * 40, "a" * 41, True)
        self.told("a" * 41, "z" * 40, False)

    def test_order_of_all_short_words(self):
        words = [""]
        for length in range(1, 5):
            words += ["".join(signs) for signs in itertools.product("abz", repeat=length)]
        for i, one in enumerate(words):
            for k, other in enumerate(words):
                self.told(one, other, i < k)


class Stands(unittest.TestCase):
    def told(self, part, word, places):
        found = [place for place in range(-6, 7) if stands(part, word, place)]
        self.assertEqual(found, places, (part, word))

    def test_places(self):
        self.told("a", "aba", [0, 2])
        self.told("aba", "ababa", [0, 2])
        self.told("ab", "ba", [])
        self.told("abc", "ab", [])

    def test_empty_word_stands_up_to_the_length(self):
        self.told("", "abc", [0, 1, 2, 3])
        self.told("", "", [0])


class Changed(unittest.TestCase):
    def test_only_what_stands_at_the_place_is_changed(self):
        self.assertEqual(changed("abab", 0, "ab", "c"), "cab")
        self.assertEqual(changed("abab", 2, "ab", "c"), "abc")
        self.assertEqual(changed("abab", 1, "", "c"), "acbab")
        self.assertEqual(changed("abab", 4, "", "c"), "ababc")
        self.assertEqual(changed("abab", 1, "ba", ""), "ab")


if __name__ == "__main__":
    unittest.main()
