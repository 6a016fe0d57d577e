import unittest

from escheat.errors import TextError
from escheat.words import read_numeral, split_words
from tests.helpers import split_mark


class SplitTest(unittest.TestCase):
    def assert_words(self, text, *wanted):
        self.assertEqual(split_words(text), list(wanted))

    def assert_refused(self, text, at):
        with self.assertRaises(TextError) as caught:
            split_words(text)
        self.assertEqual(caught.exception.at, at)

    def test_example(self):
        self.assertEqual(
            split_words("(get 0 x) ; first"),
            [('(', 0), ('get', 1), ('0', 5), ('x', 7), (')', 8)],
        )

    def test_no_words(self):
        self.assert_words("")
        self.assert_words(" \n\t \n")
        self.assert_words("; only a comment")
        self.assert_words(";")

    def test_separators(self):
        self.assert_words("a b\nc\td  e", ("a", 0), ("b", 2), ("c", 4), ("d", 6), ("e", 9))

    def test_parentheses_are_words(self):
        self.assert_words("a(b)c", ("a", 0), ("(", 1), ("b", 2), (")", 3), ("c", 4))
        self.assert_words("(())", ("(", 0), ("(", 1), (")", 2), (")", 3))

    def test_comment_ends_a_word_and_itself_before_the_newline(self):
        self.assert_words("a;b (c) ; d\ne", ("a", 0), ("e", 12))
        self.assert_words("a;\n;b\n(", ("a", 0), ("(", 6))

    def test_comment_at_the_end(self):
        self.assert_words("a ;b", ("a", 0))

    def test_words_of_any_characters(self):
        self.assert_words("!~\"#$&'*+,-./:<=>?@[]\\^_`{|}", ("!~\"#$&'*+,-./:<=>?@[]\\^_`{|}", 0))
        self.assert_words("-0 007 Ab", ("-0", 0), ("007", 3), ("Ab", 7))

    def test_every_character_of_a_word_and_of_a_comment(self):
        separators = " \n\t();%"
        for code in range(32, 127):
            character = chr(code)
            if character not in separators:
                self.assert_words(f"({character}a{character})", ("(", 0), (f"{character}a{character}", 1), (")", 4))
            if character != "%":
                self.assert_words(f"a;b{character}c", ("a", 0))
        self.assert_words("a;b\tc", ("a", 0))

    def test_every_character_of_a_text(self):
        for code in range(256):
            with self.subTest(code):
                allowed = 32 <= code <= 126 and code != 37 or code in (9, 10)
                if allowed:
                    split_words("a" + chr(code))
                else:
                    self.assert_refused("a" + chr(code), 1)

    def test_wrong_characters(self):
        for marked in ("^%", "a ^%b", "(a) ; 100^%", "a^\r\n", "^\x00", "a^\x7f", "^\xe4", "b ^\u0663", "^\U0001f600%"):
            self.assert_refused(*split_mark(marked))

    def test_the_first_wrong_character(self):
        self.assert_refused("ab%\r%", 2)

    def test_length(self):
        self.assert_words("a" * 6000, ("a" * 6000, 0))
        self.assert_refused("a" * 6001, 0)
        self.assert_refused(" " * 6001, 0)

    def test_length_comes_before_characters(self):
        self.assert_refused("aaa%" + " " * 5997, 0)
        self.assert_refused("aaa%" + " " * 5996, 3)


class NumeralTest(unittest.TestCase):
    def test_examples(self):
        self.assertEqual(read_numeral("-12"), -12)
        self.assertIs(read_numeral("007") is None, True)

    def test_numerals(self):
        for value in (0, 1, 9, 10, 90, -1, -10, 1234567890, 2147483647, -2147483648):
            self.assertEqual(read_numeral(str(value)), value)

    def test_bounds(self):
        self.assertEqual(read_numeral("2147483647"), 2147483647)
        self.assertEqual(read_numeral("-2147483648"), -2147483648)
        for word in ("2147483648", "-2147483649", "9999999999", "-9999999999", "10000000000"):
            self.assertIsNone(read_numeral(word))

    def test_other_words(self):
        words = (
            "", "-", "-0", "00", "01", "-01", "--1", "+1", "1-", "1.0", "1_0", "0x1", "1e3", " 1", "1 ", "1\n",
            "x", "a1", "true", "\u0663", "1\u0663", "\xb2", "\uff11", "1" * 11, "0" * 10, "1" * 5000,
        )
        for word in words:
            with self.subTest(word):
                self.assertIsNone(read_numeral(word))


if __name__ == "__main__":
    unittest.main()
