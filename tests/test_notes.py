import copy
import unittest

from signmill.errors import MillError, NoLine
from signmill.notes import read, shown
from tests.plain import short_words, some_lists

LETTERS = "abcdefghijklmnopqrstuvwxyz"
NAMED = ["", "a", ">>", "a>b>c", "A>b", "a > b", "a>1"]
# From the blank to ~ without the letters, without > (of which a line has one) and without the one that is left out.
OTHERS = [chr(code) for code in range(32, 127) if chr(code) not in LETTERS + ">" and code != 37]


class Shown(unittest.TestCase):
    def test_no_pairs(self):
        self.assertEqual(shown([]), [])

    def test_a_line_for_each_pair_in_order(self):
        self.assertEqual(shown([("ab", "c"), ("b", "abc"), ("ab", "c")]), ["ab>c", "b>abc", "ab>c"])

    def test_empty_words(self):
        self.assertEqual(shown([("", "a"), ("a", ""), ("", "")]), [">a", "a>", ">"])

    def test_pair_that_is_no_rule(self):
        self.assertEqual(shown([("a", "bb"), ("a", "a")]), ["a>bb", "a>a"])

    def test_longest_words(self):
        self.assertEqual(shown([("a" * 40, "z" * 40)]), ["a" * 40 + ">" + "z" * 40])

    def test_all_letters(self):
        self.assertEqual(shown([(LETTERS, LETTERS[::-1])]), [LETTERS + ">" + LETTERS[::-1]])

    def test_hundred_pairs(self):
        pairs = [(word, word[::-1]) for word in short_words("abc", 4)[:100]]
        self.assertEqual(shown(pairs), [one + ">" + other for one, other in pairs])

    def test_kinds_of_the_answer(self):
        lines = shown([("a", "b"), ("", "")])
        self.assertIs(type(lines), list)
        self.assertEqual({type(line) for line in lines}, {str})


class Read(unittest.TestCase):
    def refused(self, lines):
        for refusal in (NoLine, MillError, ValueError):
            with self.assertRaises(refusal, msg=repr(lines)):
                read(lines)
        with self.assertRaises(ValueError) as caught:
            read(lines)
        self.assertIs(type(caught.exception), NoLine)

    def test_no_lines(self):
        self.assertEqual(read([]), [])

    def test_a_pair_for_each_line_in_order(self):
        self.assertEqual(read(["ab>c", "b>abc", "ab>c"]), [("ab", "c"), ("b", "abc"), ("ab", "c")])

    def test_empty_words(self):
        self.assertEqual(read([">a", "a>", ">"]), [("", "a"), ("a", ""), ("", "")])

    def test_longest_words(self):
        self.assertEqual(read(["a" * 40 + ">" + "z" * 40]), [("a" * 40, "z" * 40)])
        self.assertEqual(read(["a" * 50 + ">"]), [("a" * 50, "")])

    def test_each_letter(self):
        for letter in LETTERS:
            self.assertEqual(read([letter + ">", ">" + letter]), [(letter, ""), ("", letter)])

    def test_kinds_of_the_answer(self):
        pairs = read(["a>b", ">"])
        self.assertIs(type(pairs), list)
        for pair in pairs:
            self.assertIs(type(pair), tuple)
            self.assertEqual([type(word) for word in pair], [str, str])

    def test_what_is_shown_is_read_again(self):
        for pairs in some_lists(20, 100, "abz", 5, 21) + [[], [("", "")], [("a" * 40, "b" * 40)]]:
            self.assertEqual(read(shown(pairs)), pairs)

    def test_what_is_read_is_shown_again(self):
        lines = [one + ">" + other for one, other in zip(short_words("az", 5), short_words("by", 5))]
        self.assertEqual(shown(read(lines)), lines)

    def test_lines_that_are_named(self):
        for line in NAMED:
            self.refused([line])

    def test_no_mark(self):
        for line in ("ab", "abc", LETTERS, "a" * 40, "a" * 81):
            self.refused([line])

    def test_several_marks(self):
        for line in (">>", ">>>", "a>>b", ">a>", ">>a", "a>>", "a>b>", ">a>b", "a>b>c>d", ">" * 40):
            self.refused([line])

    def test_every_other_sign_at_each_place(self):
        for sign in OTHERS:
            for line in ("ab>cd", "a>b", "a>", ">b", ">"):
                for place in range(len(line) + 1):
                    self.refused([line[:place] + sign + line[place:]])

    def test_every_other_sign_by_itself(self):
        for sign in OTHERS:
            self.refused([sign])
            self.refused([sign + sign])

    def test_every_other_sign_in_the_place_of_one(self):
        for sign in OTHERS:
            for place in range(5):
                self.refused(["ab>cd"[:place] + sign + "ab>cd"[place + 1:]])

    def test_blanks_around_are_not_taken_off(self):
        for line in (" a>b", "a>b ", "a >b", "a> b", " ", "  ", " > ", "> ", " >"):
            self.refused([line])

    def test_great_letters(self):
        for letter in LETTERS.upper():
            self.refused([letter + ">"])
            self.refused(["a>b" + letter])

    def test_other_writings_of_a_pair(self):
        for line in ("a->b", "a=>b", "a=b", "a<b", "a,b", "('a', 'b')", "a>'b'", "a>=b", "a>-", "a_b>c", "-1>a"):
            self.refused([line])

    def test_first_last_and_in_the_midst_of_others(self):
        for line in NAMED + ["a >b", "a>b ", "Z>"]:
            self.refused([line, "a>b", ">"])
            self.refused(["a>b", line, ">"])
            self.refused(["a>b", ">", line])
            self.refused([line, line])

    def test_among_a_hundred_lines(self):
        lines = shown([(word, "") for word in short_words("abc", 4)[:99]])
        for place in (0, 50, 99):
            self.refused(lines[:place] + ["a"] + lines[place:])


class HandedIn(unittest.TestCase):
    def test_pairs_are_the_same_afterwards(self):
        pairs = [("ab", "c"), ("", "b")]
        kept = copy.deepcopy(pairs)
        shown(pairs).clear()
        self.assertEqual(pairs, kept)

    def test_lines_are_the_same_afterwards(self):
        lines = ["ab>c", ">b"]
        read(lines).clear()
        self.assertEqual(lines, ["ab>c", ">b"])

    def test_refused_lines_are_the_same_afterwards(self):
        lines = ["ab>c", "", ">b"]
        with self.assertRaises(NoLine):
            read(lines)
        self.assertEqual(lines, ["ab>c", "", ">b"])


if __name__ == "__main__":
    unittest.main()
