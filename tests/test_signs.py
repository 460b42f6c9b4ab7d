"""[2] kinds, [13] what is refused in a text."""

import string
import unittest

from helper import Odd
from outweave.errors import NoSign
from outweave.signs import checked, is_colour, is_name, is_sign, width_of

SIGNS = [chr(code) for code in range(32, 126)]


OTHER_KINDS = [
    None, True, False, 0, 1, 97, 1.0, b"a", b"", ["a"], [], ("a",), (), {"a": 1}, {}, {"a"},
    object(), str, Odd()]


class IsSign(unittest.TestCase):
    def test_from_the_blank_to_the_last(self):
        self.assertEqual((SIGNS[0], SIGNS[-1], len(SIGNS)), (" ", "}", 94))
        for sign in SIGNS:
            self.assertIs(is_sign(sign), True, sign)

    def test_what_lies_beside_is_none(self):
        for code in list(range(0, 32)) + list(range(126, 0x500)) + [0x2028, 0xFF21, 0x1F600]:
            self.assertIs(is_sign(chr(code)), False, code)

    def test_row_end_and_anew_sign_are_none(self):
        self.assertIs(is_sign("\n"), False)
        self.assertIs(is_sign("\t"), False)

    def test_just_one(self):
        for text in ("", "ab", "  ", "[[", "a\n", "\na", "~~"):
            self.assertIs(is_sign(text), False, text)

    def test_other_kinds(self):
        for place, thing in enumerate(OTHER_KINDS):
            self.assertIs(is_sign(thing), False, place)


class IsName(unittest.TestCase):
    def test_one_to_eight_small_letters(self):
        for letter in string.ascii_lowercase:
            for length in range(1, 9):
                self.assertIs(is_name(letter * length), True)
        self.assertIs(is_name("abcdefgh"), True)
        self.assertIs(is_name("stuvwxyz"), True)

    def test_too_short_and_too_long(self):
        for name in ("", "abcdefghi", "a" * 9, "a" * 3000):
            self.assertIs(is_name(name), False, name)

    def test_each_place_must_be_a_small_letter(self):
        wrong = [chr(code) for code in range(0, 0x180) if chr(code) not in string.ascii_lowercase]
        for sign in wrong + ["\u0430", "\uff41"]:
            for name in (sign, sign + "ab", "a" + sign + "b", "ab" + sign):
                self.assertIs(is_name(name), False, name)

    def test_other_kinds(self):
        for place, thing in enumerate(OTHER_KINDS + [["a", "b"], ("a", "b")]):
            self.assertIs(is_name(thing), False, place)


class IsColour(unittest.TestCase):
    def test_each_sign(self):
        for code in range(0, 0x180):
            self.assertIs(is_colour(chr(code)), chr(code) in "abcdefgh.", code)

    def test_just_one(self):
        for text in ("", "ab", "aa", "h.", "..", "abcdefgh", "abcdefgh.", "a\n"):
            self.assertIs(is_colour(text), False, text)

    def test_other_kinds(self):
        for place, thing in enumerate(OTHER_KINDS + [["."], (".",)]):
            self.assertIs(is_colour(thing), False, place)


class WidthOf(unittest.TestCase):
    def test_each_sign(self):
        for sign in SIGNS:
            self.assertEqual(width_of(sign), 2 if sign in string.ascii_uppercase else 1, sign)

    def test_beside_the_great_letters(self):
        self.assertEqual([width_of(sign) for sign in "@AZ[az "], [1, 2, 2, 1, 1, 1, 1])


class Checked(unittest.TestCase):
    def refused_at(self, thing):
        with self.assertRaises(NoSign) as caught:
            checked(thing)
        return caught.exception.at

    def test_taken(self):
        for text in ("", " ", "}", "\n", "\t", "a\nb\tc", "[[]/[a", "".join(SIGNS), "a" * 3000):
            self.assertIsNone(checked(text))

    def test_each_sign_by_itself(self):
        for code in range(0, 0x180):
            sign = chr(code)
            if sign in SIGNS or sign in "\n\t":
                self.assertIsNone(checked(sign))
            else:
                self.assertEqual(self.refused_at("a" + sign), 1)

    def test_place_of_the_first_wrong_one(self):
        self.assertEqual(self.refused_at("~"), 0)
        self.assertEqual(self.refused_at("~abc"), 0)
        self.assertEqual(self.refused_at("ab~c"), 2)
        self.assertEqual(self.refused_at("abc~"), 3)
        self.assertEqual(self.refused_at("a\n\t~~b~"), 3)
        self.assertEqual(self.refused_at("a" * 2999 + "~"), 2999)

    def test_what_is_no_text(self):
        for place, thing in enumerate(OTHER_KINDS + [["a", "~"], ("a", "b")]):
            self.assertEqual(self.refused_at(thing), 0, place)

    def test_at_is_a_whole_number(self):
        self.assertIs(type(self.refused_at("~")), int)
        self.assertIs(type(self.refused_at(True)), int)

    def test_asked_again(self):
        self.assertEqual([self.refused_at("a~") for again in range(3)], [1, 1, 1])


if __name__ == "__main__":
    unittest.main()
