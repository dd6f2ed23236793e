"""[v2], [c1]: the tokens of a line."""

import unittest

from everyturn.tokens import tokens


class TokensTest(unittest.TestCase):
    def assert_tokens(self, line, *expected):
        self.assertEqual(tokens(line), list(expected), line)

    def test_empty_line_and_spaces(self):
        self.assert_tokens("")
        self.assert_tokens(" ")
        self.assert_tokens("      ")

    def test_what_is_returned_is_a_new_list_of_tuples(self):
        first = tokens("a 1")
        self.assertIs(type(first), list)
        self.assertEqual([type(token) for token in first], [tuple, tuple])
        first.append(("bad", "?"))
        self.assert_tokens("a 1", ("word", "a"), ("number", "1"))

    def test_numbers_of_one_digit(self):
        for digit in "0123456789":
            self.assert_tokens(digit, ("number", digit))

    def test_numbers_of_two_digits(self):
        for text in ("10", "19", "42", "90", "99"):
            self.assert_tokens(text, ("number", text))

    def test_numbers_of_more_digits_are_bad_as_a_whole(self):
        for text in ("100", "123", "999", "1000", "12345678901"):
            self.assert_tokens(text, ("bad", text))

    def test_numbers_with_a_leading_zero_are_bad_as_a_whole(self):
        for text in ("00", "01", "07", "09", "007", "010"):
            self.assert_tokens(text, ("bad", text))

    def test_words_of_each_length(self):
        for text in ("x", "ab", "thread", "notify", "abcdefg", "abcdefgh", "a1234567"):
            self.assert_tokens(text, ("word", text))

    def test_words_of_more_than_eight_characters_are_bad_as_a_whole(self):
        for text in ("abcdefghi", "a12345678", "notifyalls", "abcdefghabcdefgh1"):
            self.assert_tokens(text, ("bad", text))

    def test_every_letter_and_digit_in_a_word(self):
        for letter in "abcdefghijklmnopqrstuvwxyz":
            self.assert_tokens(letter, ("word", letter))
            self.assert_tokens("x" + letter, ("word", "x" + letter))
        for digit in "0123456789":
            self.assert_tokens("x" + digit, ("word", "x" + digit))

    def test_digits_directly_ahead_of_letters(self):
        self.assert_tokens("2x", ("number", "2"), ("word", "x"))
        self.assert_tokens("12if", ("number", "12"), ("word", "if"))
        self.assert_tokens("0a0", ("number", "0"), ("word", "a0"))
        self.assert_tokens("123ab", ("bad", "123"), ("word", "ab"))
        self.assert_tokens("01ab", ("bad", "01"), ("word", "ab"))
        self.assert_tokens("1abcdefghi", ("number", "1"), ("bad", "abcdefghi"))

    def test_digits_directly_behind_letters(self):
        self.assert_tokens("x2", ("word", "x2"))
        self.assert_tokens("x007", ("word", "x007"))
        self.assert_tokens("a1b2c3d4", ("word", "a1b2c3d4"))
        self.assert_tokens("a1b2c3d45", ("bad", "a1b2c3d45"))

    def test_each_sign(self):
        for sign in "+-*=<()":
            self.assert_tokens(sign, ("sign", sign))

    def test_signs_without_spaces(self):
        self.assert_tokens("-(a+2)*3<not b", ("sign", "-"), ("sign", "("), ("word", "a"), ("sign", "+"),
                           ("number", "2"), ("sign", ")"), ("sign", "*"), ("number", "3"), ("sign", "<"),
                           ("word", "not"), ("word", "b"))
        self.assert_tokens("--", ("sign", "-"), ("sign", "-"))
        self.assert_tokens("<=", ("sign", "<"), ("sign", "="))
        self.assert_tokens("==", ("sign", "="), ("sign", "="))
        self.assert_tokens("-5", ("sign", "-"), ("number", "5"))
        self.assert_tokens("a=b", ("word", "a"), ("sign", "="), ("word", "b"))

    def test_spaces_separate_and_belong_to_no_token(self):
        self.assert_tokens("  let   a  =  1  ", ("word", "let"), ("word", "a"), ("sign", "="), ("number", "1"))
        self.assert_tokens("1 2", ("number", "1"), ("number", "2"))
        self.assert_tokens("a b", ("word", "a"), ("word", "b"))
        self.assert_tokens(" x", ("word", "x"))

    def test_each_other_character_is_a_bad_token_of_its_own(self):
        known = " +-*=<()abcdefghijklmnopqrstuvwxyz0123456789"
        others = [chr(code) for code in range(32, 127) if chr(code) not in known]
        self.assertEqual(len(others), 95 - len(known))
        for character in others:
            self.assert_tokens(character, ("bad", character))
            self.assert_tokens("x" + character + "1", ("word", "x"), ("bad", character), ("number", "1"))
            self.assert_tokens(character * 2, ("bad", character), ("bad", character))

    def test_capital_letters_end_a_word(self):
        self.assert_tokens("xY", ("word", "x"), ("bad", "Y"))
        self.assert_tokens("AB", ("bad", "A"), ("bad", "B"))
        self.assert_tokens("a_b", ("word", "a"), ("bad", "_"), ("word", "b"))

    def test_a_bad_token_ends_nothing_else(self):
        self.assert_tokens("let x % 100 + 1", ("word", "let"), ("word", "x"), ("bad", "%"), ("bad", "100"),
                           ("sign", "+"), ("number", "1"))


if __name__ == "__main__":
    unittest.main()
