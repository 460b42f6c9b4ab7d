"""[5] the refusals."""

import unittest

from outweave import errors
from outweave.errors import (
    Closed, NoCell, NoHand, NoName, NoRoll, NoRoom, NoRow, NoSign, NoSize, OutError, Twice)
from outweave.marks import Reader

WITH_AT = [NoSign, NoRoom, NoRoll]
WITH_NAME = [NoHand, Twice, Closed]
WITH_TEXT = [NoName, NoSize, NoCell, NoRow]
ALL_TEN = WITH_AT + WITH_NAME + WITH_TEXT


class Classes(unittest.TestCase):
    def test_out_error_stands_under_value_error(self):
        self.assertEqual(OutError.__bases__, (ValueError,))

    def test_all_ten_stand_under_out_error(self):
        self.assertEqual(len(set(ALL_TEN)), 10)
        for one in ALL_TEN:
            self.assertTrue(issubclass(one, OutError), one)
            self.assertIsNot(one, OutError)

    def test_none_stands_under_another(self):
        for one in ALL_TEN:
            for other in ALL_TEN:
                if one is not other:
                    self.assertFalse(issubclass(one, other), (one, other))

    def test_each_bears_its_name(self):
        for one in ALL_TEN + [OutError]:
            self.assertIs(getattr(errors, one.__name__), one)


class Fields(unittest.TestCase):
    def test_at_is_kept(self):
        for one in WITH_AT:
            for at in (0, 1, 2999):
                self.assertEqual(one(at).at, at)

    def test_name_is_kept_of_any_kind(self):
        things = ["ann", "", "No Name", None, True, 7, ("a",), ["a"], {"a": 1}, object()]
        for one in WITH_NAME:
            for thing in things:
                self.assertIs(one(thing).name, thing)

    def test_text_is_taken(self):
        for one in WITH_TEXT:
            self.assertIsInstance(one("a word or two"), OutError)

    def test_two_refusals_have_nothing_in_common(self):
        first = NoSign(1)
        NoSign(2)
        self.assertEqual(first.at, 1)


class Raised(unittest.TestCase):
    def test_each_is_caught_as_itself_and_as_those_above(self):
        for one in ALL_TEN:
            for above in (one, OutError, ValueError):
                with self.assertRaises(above) as caught:
                    raise one(3)
                self.assertIs(type(caught.exception), one)

    def test_each_can_be_shown(self):
        for one in ALL_TEN:
            self.assertIsInstance(str(one("x")), str)
            self.assertIsInstance(repr(one("x")), str)

    def test_refused_changes_nothing_and_made_good_is_taken(self):
        reader = Reader()
        reader.feed("ab[/")
        for wrong in ("a]~", "~", None, 3, True, ["a"], b"a]"):
            with self.assertRaises(NoSign):
                reader.feed(wrong)
            self.assertEqual(reader.held_text(), "[/")
        self.assertEqual(reader.feed("a]"), [(2, "ground", "a")])


if __name__ == "__main__":
    unittest.main()
