"""[14] the reader, [13] its refusals, [3] the asker's own."""

import os
import unittest

from helper import short_texts
from outweave.errors import NoSign
from outweave.marks import Reader, items_of

ENDS = ["", "]", "[", "x", "a", "a]", "/a]", "/", "\n", ".]", "[]", "/.]"]


def fed(pieces):
    reader = Reader()
    told = []
    for piece in pieces:
        told += reader.feed(piece)
    return told, reader.held_text(), reader


def whole(pieces):
    told, held, reader = fed(pieces)
    return told + reader.finish()


def certain_items(text):
    """The items that the text has whatever comes behind it."""
    rows = [items_of(text + end) for end in ENDS]
    return list(os.path.commonprefix(rows))


class Held(unittest.TestCase):
    def test_behind_each_sign(self):
        reader = Reader()
        held = []
        for sign in "a[b]c[/d]e[[f[]g[h[/i[/b\n[/\t[.x":
            reader.feed(sign)
            held.append(reader.held_text())
        self.assertEqual(held, [
            "", "[", "[b", "", "", "[", "[/", "[/d", "", "", "[", "", "", "[", "", "",
            "[", "[h", "[", "[/", "", "[", "[/", "[/b", "", "[", "[/", "", "[", "[.", ""])

    def test_at_first_nothing(self):
        self.assertEqual(Reader().held_text(), "")

    def test_each_beginning_is_held(self):
        beginnings = ["[", "[/"] + [b + c for b in ("[", "[/") for c in "abcdefgh."]
        for text in beginnings:
            self.assertEqual(fed([text])[:2], ([], text))

    def test_nothing_else_is_held(self):
        for text in ("[i", "[]", "[[", "[a]", "[ab", "[/i", "[//", "[/]", "[/ab", "[/a]", "[\n", "]"):
            self.assertEqual(fed([text])[1], "", text)

    def test_no_more_than_three_and_all_that_is_not_told(self):
        for text in short_texts("[]/a\n", 6):
            told, held, reader = fed([text])
            self.assertLessEqual(len(held), 3)
            self.assertTrue(text.endswith(held))
            self.assertEqual(told, items_of(text[:len(text) - len(held)]), text)

    def test_asking_changes_nothing(self):
        reader = Reader()
        reader.feed("[/")
        self.assertEqual([reader.held_text(), reader.held_text()], ["[/", "[/"])
        self.assertEqual(reader.feed("a]"), [(0, "ground", "a")])


class AsSoonAsCertain(unittest.TestCase):
    def test_all_short_texts(self):
        for text in short_texts("[]/a.x\n", 5):
            self.assertEqual(fed([text])[0], certain_items(text), text)

    def test_sign_by_sign(self):
        reader = Reader()
        self.assertEqual([reader.feed(sign) for sign in "[a[b]x"], [
            [], [], [(0, "sign", "["), (1, "sign", "a")], [], [(2, "ink", "b")], [(5, "sign", "x")]])

    def test_what_turns_out_to_be_no_mark(self):
        reader = Reader()
        self.assertEqual(reader.feed("[/a"), [])
        self.assertEqual(reader.feed("\n"), [
            (0, "sign", "["), (1, "sign", "/"), (2, "sign", "a"), (3, "end", "")])


class Cut(unittest.TestCase):
    def test_at_every_place(self):
        text = "ab[c]d[/e]f[[g[]h\n[i]\t[/j][a[b]c[[a][/[.][/.]x[/a"
        for cut in range(len(text) + 1):
            self.assertEqual(whole([text[:cut], text[cut:]]), items_of(text), cut)
            for second in range(cut, len(text) + 1):
                self.assertEqual(whole([text[:cut], text[cut:second], text[second:]]), items_of(text))

    def test_sign_by_sign(self):
        for text in short_texts("[]/a\n", 5):
            self.assertEqual(whole(list(text)), items_of(text), text)
            self.assertEqual(fed(list(text))[:2], fed([text])[:2], text)

    def test_pieces_without_signs(self):
        reader = Reader()
        self.assertEqual(reader.feed(""), [])
        reader.feed("[")
        self.assertEqual(reader.feed(""), [])
        self.assertEqual(reader.held_text(), "[")
        self.assertEqual(reader.feed("a]"), [(0, "ink", "a")])

    def test_three_thousand_signs(self):
        for text in ("[/a" * 1000, "[/b]" * 750, "[" * 2999 + "a", "a[b]C\n\t[" * 375):
            self.assertEqual(len(text), 3000)
            self.assertEqual(whole(list(text)), items_of(text))
            self.assertEqual(whole([text[k:k + 7] for k in range(0, 3000, 7)]), items_of(text))

    def test_two_readers_have_nothing_in_common(self):
        one, other = Reader(), Reader()
        one.feed("ab[")
        self.assertEqual(other.held_text(), "")
        self.assertEqual(other.feed("a]"), [(0, "sign", "a"), (1, "sign", "]")])
        self.assertEqual(one.feed("a]"), [(2, "ink", "a")])


class Finish(unittest.TestCase):
    def test_with_something_held(self):
        for held in ("[", "[a", "[.", "[/", "[/h", "[/."):
            reader = Reader()
            reader.feed("xy" + held)
            self.assertEqual(reader.finish(), [(2 + k, "sign", sign) for k, sign in enumerate(held)])
            self.assertEqual(reader.held_text(), "")
            self.assertEqual(reader.finish(), [])

    def test_with_nothing_held(self):
        reader = Reader()
        self.assertEqual(reader.finish(), [])
        reader.feed("a[b]\n")
        self.assertEqual(reader.finish(), [])

    def test_what_is_fed_behind_is_a_text_of_its_own(self):
        for first in short_texts("[/a", 4):
            for second in ("]", "a]b", "[", "/a]", "[a]x", "\n[/b]"):
                reader = Reader()
                told = reader.feed(first) + reader.finish()
                self.assertEqual(told, items_of(first))
                behind = reader.feed(second) + reader.finish()
                count = len(first)
                self.assertEqual(
                    behind, [(place + count, kind, value) for place, kind, value in items_of(second)])

    def test_finished_twice_with_texts_between(self):
        reader = Reader()
        reader.feed("a[")
        self.assertEqual(reader.finish(), [(1, "sign", "[")])
        self.assertEqual(reader.feed("[/b"), [])
        self.assertEqual(reader.finish(), [(2, "sign", "["), (3, "sign", "/"), (4, "sign", "b")])
        self.assertEqual(reader.feed("]"), [(5, "sign", "]")])


class Refused(unittest.TestCase):
    def refused_at(self, reader, piece):
        with self.assertRaises(NoSign) as caught:
            reader.feed(piece)
        return caught.exception.at

    def test_at_counts_within_the_piece(self):
        reader = Reader()
        reader.feed("abcdef[/")
        for piece, at in (("~", 0), ("~b]", 0), ("b~]", 1), ("b]cd~", 4), ("\n\t~~", 2)):
            self.assertEqual(self.refused_at(reader, piece), at)

    def test_nothing_of_the_piece_is_read(self):
        text = "ab[c]d[/e]f[[g\n[/"
        for cut in range(len(text) + 1):
            reader = Reader()
            told = reader.feed(text[:cut])
            held = reader.held_text()
            for piece in ("~", "a]x[b~", "[/~a]", "]~", None, True, False, 0, ["a"], (), b"]"):
                self.refused_at(reader, piece)
                self.assertEqual(reader.held_text(), held)
            told += reader.feed(text[cut:]) + reader.finish()
            self.assertEqual(told, items_of(text))

    def test_made_good_it_is_taken(self):
        reader = Reader()
        reader.feed("x[")
        self.refused_at(reader, "a]y~")
        self.assertEqual(reader.feed("a]y"), [(1, "ink", "a"), (4, "sign", "y")])

    def test_what_is_no_text(self):
        for thing in (None, True, False, 0, 7, 1.5, b"ab", ["a"], [], ("a", "~"), {"a": 1}):
            self.assertEqual(self.refused_at(Reader(), thing), 0, thing)

    def test_behind_a_finish(self):
        reader = Reader()
        reader.feed("ab[")
        reader.finish()
        self.assertEqual(self.refused_at(reader, "c~"), 1)
        self.assertEqual(reader.feed("c"), [(3, "sign", "c")])


class AskersOwn(unittest.TestCase):
    def test_what_was_told_and_is_changed_changes_nothing(self):
        reader = Reader()
        for piece in ("", "a", "[", "[/"):
            told = reader.feed(piece)
            told.append("more")
        self.assertEqual(reader.feed("b]"), [(4, "sign", "b"), (5, "sign", "]")])
        reader.feed("[/c")
        told = reader.finish()
        told.clear()
        again = reader.finish()
        again.append("more")
        self.assertEqual(reader.finish(), [])
        self.assertEqual(reader.feed("d"), [(9, "sign", "d")])

    def test_lists_are_lists(self):
        reader = Reader()
        self.assertIs(type(reader.feed("a[")), list)
        self.assertIs(type(reader.feed("")), list)
        self.assertIs(type(reader.finish()), list)
        self.assertIs(type(reader.held_text()), str)


if __name__ == "__main__":
    unittest.main()
