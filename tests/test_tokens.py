"""Points 1.1 and 1.2."""

import unittest

from signoff.errors import BadToken
from signoff.tokens import is_name, is_numeral, tokenize
from tests.helpers import few_calls

KEYWORDS = "cell pin module gate part reg edge out setup hold start".split()
SIGNS = "( ) { } , ; : = -> .. & | ^ !".split()
NAMES = ["a", "z", "cells", "pi", "a1", "a_", "a__9b", "cell_", "cell1", "x" * 300]
NUMERALS = ["0", "1", "9", "10", "12", "123", "1234", "12345", "123456", "1234567", "12345678",
            "123456789", "100000000", "999999999"]
BAD_RUNS = ["00", "01", "0123456789", "1234567890", "9" * 50, "1a", "12_", "0x", "1_000", "_", "_a",
            "_1", "__", "9cell"]
BAD_CHARACTERS = ["-", ".", "A", "Z", "@", "[", "]", "+", "*", "/", "<", ">", "?", "'", '"', "\\",
                  "~", "$", "`"]


class Tokens(unittest.TestCase):
    def fault(self, text):
        with self.assertRaises(BadToken) as caught:
            tokenize(text)
        return caught.exception.at

    def test_example_of_the_document(self):
        self.assertEqual(self.fault("a = 1 . 2"), 6)

    def test_each_token_alone(self):
        for token in KEYWORDS + NAMES + NUMERALS + SIGNS:
            with self.subTest(token):
                self.assertEqual(tokenize(token), [token])

    def test_pairs_of_tokens_with_each_kind_of_gap(self):
        tokens = KEYWORDS[:2] + NAMES[:5] + NUMERALS[:4] + SIGNS
        for first in tokens:
            for second in tokens:
                for gap in (" ", "\n", "   ", " \n\n ", "#\n", "# a b = ..\n", "#-.A\n#\n"):
                    with self.subTest(first + gap + second):
                        self.assertEqual(tokenize(first + gap + second), [first, second])

    def test_pairs_with_nothing_between(self):
        words = ["cell", "a", "b_2"]
        for sign in SIGNS:
            for word in words + NUMERALS[:3]:
                self.assertEqual(tokenize(word + sign), [word, sign])
                self.assertEqual(tokenize(sign + word), [sign, word])
            for other in SIGNS:
                self.assertEqual(tokenize(sign + other), [sign, other])

    def test_longest_tokens(self):
        self.assertEqual(tokenize("cellpin"), ["cellpin"])
        self.assertEqual(tokenize("cell_pin pin7"), ["cell_pin", "pin7"])
        self.assertEqual(tokenize("1..22"), ["1", "..", "22"])
        self.assertEqual(tokenize("a->b"), ["a", "->", "b"])
        self.assertEqual(tokenize("!!a&(b|0)^c"), ["!", "!", "a", "&", "(", "b", "|", "0", ")", "^", "c"])
        self.assertEqual(tokenize("...."), ["..", ".."])
        self.assertEqual(tokenize("->->"), ["->", "->"])
        self.assertEqual(tokenize("gate s=exor(x,y);"),
                         ["gate", "s", "=", "exor", "(", "x", ",", "y", ")", ";"])

    def test_empty_texts(self):
        for text in ("", " ", "\n", " \n \n", "#", "# only this", "#\n", "##", "  # a\n  # b"):
            with self.subTest(text):
                self.assertEqual(tokenize(text), [])

    def test_comments(self):
        self.assertEqual(tokenize("a#b"), ["a"])
        self.assertEqual(tokenize("a#b\nc"), ["a", "c"])
        self.assertEqual(tokenize("1#\n2"), ["1", "2"])
        self.assertEqual(tokenize("a # b # c\n.. # ~@A-."), ["a", ".."])
        self.assertEqual(tokenize("#c\na"), ["a"])
        self.assertEqual(tokenize("a\n#"), ["a"])

    def test_a_comment_splits_a_sign(self):
        self.assertEqual(self.fault("-#\n>"), 0)
        self.assertEqual(self.fault(".#\n."), 0)

    def test_bad_pieces_alone(self):
        for piece in BAD_RUNS + BAD_CHARACTERS:
            for before in ("", " ", "a ", "# -\n", "( ", ".. "):
                for behind in ("", " ", " a", "\n", "#", ";"):
                    with self.subTest(before + piece + behind):
                        self.assertEqual(self.fault(before + piece + behind), len(before))

    def test_the_first_of_two_bad_pieces_is_told(self):
        for piece in BAD_RUNS + BAD_CHARACTERS:
            for second in BAD_RUNS + BAD_CHARACTERS:
                self.assertEqual(self.fault("a; " + piece + " " + second), 3)

    def test_where_a_piece_begins(self):
        self.assertEqual(self.fault("..."), 2)
        self.assertEqual(self.fault("1.2"), 1)
        self.assertEqual(self.fault("1...2"), 3)
        self.assertEqual(self.fault("--"), 0)
        self.assertEqual(self.fault("-->"), 0)
        self.assertEqual(self.fault("->-"), 2)
        self.assertEqual(self.fault("a-b"), 1)
        self.assertEqual(self.fault("- >"), 0)
        self.assertEqual(self.fault(". ."), 0)
        self.assertEqual(self.fault("aB"), 1)
        self.assertEqual(self.fault("1A"), 1)
        self.assertEqual(self.fault("(1a)"), 1)
        self.assertEqual(self.fault("..1a"), 2)
        self.assertEqual(self.fault("a\n  _b"), 4)
        self.assertEqual(self.fault("ab cd 01"), 6)
        self.assertEqual(self.fault("a\t"), 1)

    def test_names(self):
        for token in NAMES:
            self.assertIs(is_name(token), True, token)
        for token in KEYWORDS + NUMERALS + SIGNS:
            self.assertIs(is_name(token), False, token)

    def test_numerals(self):
        for token in NUMERALS:
            self.assertIs(is_numeral(token), True, token)
        for token in KEYWORDS + NAMES + SIGNS + BAD_RUNS:
            self.assertIs(is_numeral(token), False, token)

    def test_single_characters(self):
        for character in "abcdefghijklmnopqrstuvwxyz":
            self.assertIs(is_name(character), True)
            self.assertIs(is_numeral(character), False)
            self.assertIs(is_numeral("1" + character), False)
            self.assertIs(is_name("1" + character), False)
            self.assertIs(is_name("a" + character), True)
        for character in "0123456789":
            self.assertIs(is_name(character), False)
            self.assertIs(is_numeral(character), True)
            self.assertIs(is_numeral("1" + character), True)
            self.assertIs(is_name("a" + character), True)

    def test_bad_pieces_are_neither_names_nor_numerals(self):
        for token in BAD_RUNS + BAD_CHARACTERS + ["aB", "a-b", "a/b", "a b"]:
            self.assertIs(is_name(token), False, token)
            self.assertIs(is_numeral(token), False, token)

    def test_every_character_has_its_answer(self):
        single = "abcdefghijklmnopqrstuvwxyz0123456789(){},;:=&|^!"
        for code in range(32, 127):
            character = chr(code)
            if character in " #":
                self.assertEqual(tokenize(character), [])
            elif character in single:
                self.assertEqual(tokenize(character), [character])
            else:
                self.assertEqual(self.fault(character), 0)

    def test_a_long_text(self):
        with few_calls():
            self.assertEqual(tokenize("a & " * 20000 + "b"), ["a", "&"] * 20000 + ["b"])

    def test_the_list_is_new(self):
        tokens = tokenize("a b")
        tokens.append("c")
        self.assertEqual(tokenize("a b"), ["a", "b"])


if __name__ == "__main__":
    unittest.main()
