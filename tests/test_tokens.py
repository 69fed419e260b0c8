"""Points 1.1 to 1.4: the tokens of a text, their places and their errors."""

import unittest

from reaimed.errors import AimError, BadCharacter, BadNumber, TextError
from reaimed.tokens import KEYWORDS, tokens

SIGNS = ("{", "}", "(", ")", ",", ";", ".", "=", ":=", "+", "-", "*", "==", "<", "<=")
LETTERS = "abcdefghijklmnopqrstuvwxyzABCDEFGHIJKLMNOPQRSTUVWXYZ"
DIGITS = "0123456789"


def words(text):
    """The kinds and texts of the tokens, without the end token."""
    return [token[:2] for token in tokens(text)[:-1]]


class TextCase(unittest.TestCase):
    def wrong(self, error, row, column, text):
        """Checks that a text raises just this error with this place."""
        with self.assertRaises(AimError) as caught:
            tokens(text)
        self.assertIs(caught.exception.__class__, error, text)
        self.assertEqual((caught.exception.row, caught.exception.column), (row, column), text)


class TestKinds(TextCase):
    def test_functions_stand_in_their_file(self):
        self.assertEqual(tokens.__module__, "reaimed.tokens")

    def test_keywords_in_order(self):
        self.assertEqual(KEYWORDS, tuple(
            "method main object const var parent let print return if else while put drop resend fn call self"
            " true false nothing div mod".split()))

    def test_result_is_a_new_list_of_tuples(self):
        first = tokens("a + 1")
        self.assertIs(first.__class__, list)
        for token in first:
            self.assertIs(token.__class__, tuple)
            self.assertEqual([part.__class__ for part in token], [str, str, int, int])
        first.clear()
        self.assertEqual(len(tokens("a + 1")), 4)

    def test_one_of_each_kind(self):
        self.assertEqual(tokens("q 12 let :="), [
            ("name", "q", 1, 1), ("number", "12", 1, 3), ("keyword", "let", 1, 6), ("sign", ":=", 1, 10),
            ("end", "", 1, 12)])

    def test_each_keyword(self):
        for word in KEYWORDS:
            with self.subTest(word):
                self.assertEqual(words(word), [("keyword", word)])

    def test_each_sign(self):
        for sign in SIGNS:
            with self.subTest(sign):
                self.assertEqual(words(sign), [("sign", sign)])

    def test_names(self):
        for name in ("a", "Z", "a1", "a_", "a_1_b", "zZ09_", "lobby", "x" * 300):
            with self.subTest(name):
                self.assertEqual(words(name), [("name", name)])

    def test_each_letter_begins_a_name_and_may_follow(self):
        for letter in LETTERS:
            self.assertEqual(words(letter), [("name", letter)])
            self.assertEqual(words("q" + letter), [("name", "q" + letter)])

    def test_each_digit_and_underscore_may_follow(self):
        for char in DIGITS + "_":
            self.assertEqual(words("q" + char + "r"), [("name", "q" + char + "r")])

    def test_names_that_begin_or_end_like_keywords(self):
        for word in KEYWORDS:
            for name in (word + "s", word + "_", word + "1", word + word, "x" + word, word.upper(), word[:-1] + "0"):
                with self.subTest(name):
                    self.assertEqual(words(name), [("name", name)])

    def test_keywords_are_not_found_with_other_letters(self):
        self.assertEqual(words("Let LET leT"), [("name", "Let"), ("name", "LET"), ("name", "leT")])

    def test_numbers(self):
        for number in ("0", "1", "9", "10", "100", "907", "999999999999", "1000000000000"):
            with self.subTest(number):
                self.assertEqual(words(number), [("number", number)])

    def test_words_end_before_signs(self):
        self.assertEqual(words("a.b(1)"), [
            ("name", "a"), ("sign", "."), ("name", "b"), ("sign", "("), ("number", "1"), ("sign", ")")])
        self.assertEqual(words("1-2"), [("number", "1"), ("sign", "-"), ("number", "2")])


class TestSigns(TextCase):
    def test_the_longer_sign_is_taken(self):
        self.assertEqual(words("==="), [("sign", "=="), ("sign", "=")])
        self.assertEqual(words("===="), [("sign", "=="), ("sign", "==")])
        self.assertEqual(words("<=="), [("sign", "<="), ("sign", "=")])
        self.assertEqual(words(":=="), [("sign", ":="), ("sign", "=")])
        self.assertEqual(words("<<="), [("sign", "<"), ("sign", "<=")])
        self.assertEqual(words("=<="), [("sign", "="), ("sign", "<=")])
        self.assertEqual(words("=:="), [("sign", "="), ("sign", ":=")])
        self.assertEqual(words("<:="), [("sign", "<"), ("sign", ":=")])

    def test_signs_that_join_no_longer_one(self):
        self.assertEqual(words("=<"), [("sign", "="), ("sign", "<")])
        self.assertEqual(words("+="), [("sign", "+"), ("sign", "=")])
        self.assertEqual(words("--"), [("sign", "-"), ("sign", "-")])
        self.assertEqual(words("..;,"), [("sign", "."), ("sign", "."), ("sign", ";"), ("sign", ",")])

    def test_each_pair_of_signs(self):
        for one in SIGNS:
            for other in SIGNS:
                joined = one + other
                with self.subTest(joined):
                    found = words(joined)
                    self.assertEqual("".join(text for _, text in found), joined)
                    longest = max((sign for sign in SIGNS if joined.startswith(sign)), key=len)
                    self.assertEqual(found[0], ("sign", longest))

    def test_separated_signs_do_not_join(self):
        for gap in (" ", "\n", "#\n", " # = \n "):
            self.assertEqual(words("=" + gap + "="), [("sign", "="), ("sign", "=")])
            self.assertEqual(words("<" + gap + "="), [("sign", "<"), ("sign", "=")])

    def test_separated_words_do_not_join(self):
        for gap in (" ", "\n", "#\n", " # x \n "):
            self.assertEqual(words("a" + gap + "1"), [("name", "a"), ("number", "1")])
            self.assertEqual(words("1" + gap + "a"), [("number", "1"), ("name", "a")])


class TestPlaces(TextCase):
    def test_empty_text(self):
        self.assertEqual(tokens(""), [("end", "", 1, 1)])

    def test_gaps_alone(self):
        self.assertEqual(tokens("   "), [("end", "", 1, 4)])
        self.assertEqual(tokens("\n"), [("end", "", 2, 1)])
        self.assertEqual(tokens("\n\n  "), [("end", "", 3, 3)])
        self.assertEqual(tokens("  \n"), [("end", "", 2, 1)])

    def test_places_behind_spaces_and_newlines(self):
        self.assertEqual(tokens("  ab  c\n\n  12;\n"), [
            ("name", "ab", 1, 3), ("name", "c", 1, 7), ("number", "12", 3, 3), ("sign", ";", 3, 5),
            ("end", "", 4, 1)])

    def test_end_behind_the_last_character(self):
        self.assertEqual(tokens("ab")[-1], ("end", "", 1, 3))
        self.assertEqual(tokens("ab ")[-1], ("end", "", 1, 4))
        self.assertEqual(tokens("ab\ncd :=")[-1], ("end", "", 2, 6))

    def test_comments_are_skipped(self):
        self.assertEqual(tokens("a # b := 1\nc"), [("name", "a", 1, 1), ("name", "c", 2, 1), ("end", "", 2, 2)])
        self.assertEqual(tokens("a#b\n#\n  #c\n d"), [
            ("name", "a", 1, 1), ("name", "d", 4, 2), ("end", "", 4, 3)])

    def test_comment_that_ends_with_the_text(self):
        self.assertEqual(tokens("a # note"), [("name", "a", 1, 1), ("end", "", 1, 9)])
        self.assertEqual(tokens("#"), [("end", "", 1, 2)])
        self.assertEqual(tokens("##\n#x"), [("end", "", 2, 3)])

    def test_comment_that_ends_with_a_newline(self):
        self.assertEqual(tokens("a # note\n"), [("name", "a", 1, 1), ("end", "", 2, 1)])

    def test_places_of_tokens_side_by_side(self):
        self.assertEqual(tokens("a:=b.c"), [
            ("name", "a", 1, 1), ("sign", ":=", 1, 2), ("name", "b", 1, 4), ("sign", ".", 1, 5), ("name", "c", 1, 6),
            ("end", "", 1, 7)])


class TestBadNumbers(TextCase):
    def test_leading_zeros(self):
        for word in ("00", "01", "007", "0000000000000001", "0" * 5000):
            self.wrong(BadNumber, 1, 1, word)

    def test_numbers_that_are_too_large(self):
        for word in ("1000000000001", "1000000000010", "9999999999999", "10000000000000", "1" * 30, "9" * 9000):
            self.wrong(BadNumber, 1, 1, word)

    def test_words_that_begin_with_a_digit(self):
        for word in ("1a", "1_", "0x10", "0_", "12let", "1e5", "9_9", "0a", "1000000000000a"):
            self.wrong(BadNumber, 1, 1, word)

    def test_the_place_is_that_of_the_first_character(self):
        self.wrong(BadNumber, 3, 4, "a\n # 1b\n b 12x y")
        self.wrong(BadNumber, 1, 4, "a:=01")

    def test_numbers_inside_of_comments_are_not_examined(self):
        self.assertEqual(tokens("# 01 1a\n1"), [("number", "1", 2, 1), ("end", "", 2, 2)])

    def test_digits_in_names_are_free(self):
        self.assertEqual(words("a01 b1000000000001"), [("name", "a01"), ("name", "b1000000000001")])


class TestBadCharacters(TextCase):
    def test_each_character_of_the_first_256(self):
        good = " \n#" + LETTERS + DIGITS + "{}(),;.=+-*<"
        for code in range(256):
            char = chr(code)
            with self.subTest(code):
                if char in good:
                    tokens(char)
                else:
                    self.wrong(BadCharacter, 1, 1, char)

    def test_characters_that_begin_no_token_behind_others(self):
        for char in "!\"$&'/>?@[\\]^_`|~:%\t\r\x00\x0b\x0c\x7f\x85\xa0\u2028\u3000\u0660\u00b2\u00e9\u0430\U0001f600":
            self.wrong(BadCharacter, 1, 5, "let " + char)
            self.wrong(BadCharacter, 2, 3, "\n +" + char + "a")

    def test_underscore_begins_nothing(self):
        self.wrong(BadCharacter, 1, 1, "_a")
        self.wrong(BadCharacter, 1, 3, "a _")

    def test_letters_and_digits_of_other_alphabets_end_words(self):
        self.wrong(BadCharacter, 1, 2, "a\u00e9")
        self.wrong(BadCharacter, 1, 2, "1\u0661")
        self.wrong(BadCharacter, 1, 3, "a1\u00b2")

    def test_colon_alone(self):
        for text in (":", ": =", ":\n=", ":a", "::=", ":#\n="):
            self.wrong(BadCharacter, 1, 1, text)
        self.wrong(BadCharacter, 1, 3, ":=:")

    def test_percent_sign(self):
        self.wrong(BadCharacter, 1, 2, "a%b")

    def test_newlines_of_other_kinds_begin_no_row(self):
        self.assertEqual(tokens("# a\r\u2028 b\nc"), [("name", "c", 2, 1), ("end", "", 2, 2)])

    def test_comments_are_not_examined(self):
        self.assertEqual(tokens("a # _ : % \t\r\x00\u00e9 \" \\ # 1x\nb"), [
            ("name", "a", 1, 1), ("name", "b", 2, 1), ("end", "", 2, 2)])

    def test_characters_in_comments_count_for_the_end(self):
        self.assertEqual(tokens("#\u00e9\t%"), [("end", "", 1, 5)])


class TestFirstError(TextCase):
    def test_the_left_one_is_raised(self):
        self.wrong(BadNumber, 1, 1, "01 %")
        self.wrong(BadCharacter, 1, 1, "% 01")
        self.wrong(BadNumber, 1, 3, "a 1b 02 :")
        self.wrong(BadCharacter, 2, 1, "a\n: 1b\n_")
        self.wrong(BadCharacter, 1, 2, "a$01")

    def test_both_side_by_side(self):
        self.wrong(BadNumber, 1, 1, "01%")
        self.wrong(BadNumber, 1, 1, "1_%")
        self.wrong(BadCharacter, 1, 2, "1%2x")

    def test_they_are_text_errors(self):
        for text in ("%", "01"):
            with self.assertRaises(TextError):
                tokens(text)


if __name__ == "__main__":
    unittest.main()
