"""[11], [12] marks and items, [13] refusals, [3] the asker's own, [4] bounds."""

import itertools
import re
import unittest

from helper import short_texts
from outweave.errors import NoSign
from outweave.marks import items_of, text_of

COLOURS = "abcdefgh."
TOKEN = re.compile(r"\[\]|\[\[|\[[a-h.]\]|\[/[a-h.]\]|[ -}\n\t]")
SIGNS = [chr(code) for code in range(32, 126)]


def expected_items(text):
    """The items of a text, told another way: by one search for the marks."""
    items = []
    place = 0
    while place < len(text):
        token = TOKEN.match(text, place).group()
        items.append((place,) + expected_kind(token))
        place += len(token)
    return items


def expected_kind(token):
    if token == "\n":
        return ("end", "")
    if token == "\t":
        return ("anew", "")
    if len(token) == 1 or token == "[[":
        return ("sign", token[0])
    if token == "[]":
        return ("plain", "")
    return ("ground" if "/" in token else "ink", token[-2])


def signs_from(place, text):
    return [(place + k, "sign", sign) for k, sign in enumerate(text)]


class Marks(unittest.TestCase):
    def test_each_mark(self):
        self.assertEqual(items_of("[]"), [(0, "plain", "")])
        self.assertEqual(items_of("[["), [(0, "sign", "[")])
        for colour in COLOURS:
            self.assertEqual(items_of("[" + colour + "]"), [(0, "ink", colour)])
            self.assertEqual(items_of("[/" + colour + "]"), [(0, "ground", colour)])

    def test_each_mark_amid_signs(self):
        for mark in ["[]", "[["] + [b + c + "]" for b in ("[", "[/") for c in COLOURS]:
            items = items_of("xy" + mark + "z")
            self.assertEqual([item[0] for item in items], [0, 1, 2, 2 + len(mark)])
            self.assertEqual(items[3], (2 + len(mark), "sign", "z"))

    def test_beginnings_that_are_no_marks(self):
        for text in ("[", "[a", "[.", "[/", "[/a", "[/.", "[i]", "[A]", "[/i]", "[/A]", "[ ]",
                     "[a ]", "[ab]", "[a.]", "[/]", "[//a]", "[/ab]", "[/a/]", "[a/]", "[..]",
                     "]", "a]", "/a]", "[-]", "[0]", "[}]", "[\\]"):
            self.assertEqual(items_of(text), signs_from(0, text), text)

    def test_no_other_sign_is_a_colour(self):
        for sign in SIGNS:
            if sign not in COLOURS + "[]":
                self.assertEqual(items_of("[" + sign + "]"), signs_from(0, "[" + sign + "]"))
                self.assertEqual(items_of("[/" + sign + "]"), signs_from(0, "[/" + sign + "]"))

    def test_what_is_behind_is_read_on(self):
        self.assertEqual(items_of("[a[b]"), [(0, "sign", "["), (1, "sign", "a"), (2, "ink", "b")])
        self.assertEqual(items_of("[[a]"), [(0, "sign", "["), (2, "sign", "a"), (3, "sign", "]")])
        self.assertEqual(items_of("[[[a]"), [(0, "sign", "["), (2, "ink", "a")])
        self.assertEqual(items_of("[/[/b]"), signs_from(0, "[/") + [(2, "ground", "b")])
        self.assertEqual(items_of("[/a[[x"), signs_from(0, "[/a") + [(3, "sign", "["), (5, "sign", "x")])
        self.assertEqual(items_of("[a[]"), signs_from(0, "[a") + [(2, "plain", "")])
        self.assertEqual(items_of("[[[["), [(0, "sign", "["), (2, "sign", "[")])
        self.assertEqual(items_of("[[["), [(0, "sign", "["), (2, "sign", "[")])

    def test_row_end_and_anew_sign(self):
        self.assertEqual(items_of("\n\t"), [(0, "end", ""), (1, "anew", "")])
        self.assertEqual(items_of("[\n]"), [(0, "sign", "["), (1, "end", ""), (2, "sign", "]")])
        self.assertEqual(items_of("[a\t]"), signs_from(0, "[a") + [(2, "anew", ""), (3, "sign", "]")])
        self.assertEqual(items_of("[/a\n]"), signs_from(0, "[/a") + [(3, "end", ""), (4, "sign", "]")])

    def test_each_sign_but_the_bracket_stands_for_itself(self):
        for sign in SIGNS:
            self.assertEqual(items_of(sign), [(0, "sign", sign)])
            if sign != "[":
                self.assertEqual(items_of(sign + sign), signs_from(0, sign + sign))

    def test_no_signs(self):
        self.assertEqual(items_of(""), [])

    def test_all_short_texts(self):
        for text in short_texts("[]/a.x\n\t", 5):
            self.assertEqual(items_of(text), expected_items(text), text)

    def test_items_are_tuples_in_a_list(self):
        items = items_of("a[b]\n\t[]")
        self.assertIs(type(items), list)
        for item in items:
            self.assertIs(type(item), tuple)
            self.assertEqual([type(thing) for thing in item], [int, str, str])

    def test_three_thousand_signs(self):
        for text in ("[/a" * 1000, "[/a]" * 750, "[" * 3000, "[a" * 1500, "aB \n\t[c" * 428 + "[/.]"):
            self.assertLessEqual(len(text), 3000)
            self.assertEqual(items_of(text), expected_items(text))


class Refused(unittest.TestCase):
    def refused_at(self, thing):
        with self.assertRaises(NoSign) as caught:
            items_of(thing)
        return caught.exception.at

    def test_place_of_the_first_wrong_one(self):
        self.assertEqual(self.refused_at("~[a]b"), 0)
        self.assertEqual(self.refused_at("[a]~b~"), 3)
        self.assertEqual(self.refused_at("[/~]"), 2)
        self.assertEqual(self.refused_at("[[[~"), 3)
        self.assertEqual(self.refused_at("\n\t\r"), 2)

    def test_what_is_no_text(self):
        for thing in (None, True, False, 0, 5, 1.5, b"ab", ["a"], [], ("a", "b"), (), {}, {"a": 1}):
            self.assertEqual(self.refused_at(thing), 0, thing)


class TextOf(unittest.TestCase):
    def test_each_kind(self):
        self.assertEqual(text_of([]), "")
        self.assertEqual(text_of([(0, "sign", "[")]), "[[")
        self.assertEqual(text_of([(0, "plain", "")]), "[]")
        self.assertEqual(text_of([(0, "end", "")]), "\n")
        self.assertEqual(text_of([(0, "anew", "")]), "\t")
        for colour in COLOURS:
            self.assertEqual(text_of([(0, "ink", colour)]), "[" + colour + "]")
            self.assertEqual(text_of([(0, "ground", colour)]), "[/" + colour + "]")
        for sign in SIGNS:
            self.assertEqual(text_of([(0, "sign", sign)]), "[[" if sign == "[" else sign)

    def test_whatever_the_places(self):
        items = [(9, "sign", "x"), (0, "ink", "b"), (0, "sign", "["), (2999, "end", "")]
        self.assertEqual(text_of(items), "x[b][[\n")

    def test_its_items_are_these_again(self):
        kinds = [("sign", sign) for sign in "[]/a. "]
        kinds += [("ink", "a"), ("ink", "."), ("ground", "h"), ("ground", "."), ("plain", ""),
                  ("end", ""), ("anew", "")]
        for length in range(4):
            for row in itertools.product(kinds, repeat=length):
                items = [(7,) + pair for pair in row]
                self.assertEqual([item[1:] for item in items_of(text_of(items))], list(row))

    def test_of_a_text_that_was_read(self):
        for text in short_texts("[]/a\n", 5):
            told = items_of(text_of(items_of(text)))
            self.assertEqual([item[1:] for item in told], [item[1:] for item in items_of(text)])

    def test_three_thousand_signs(self):
        self.assertEqual(text_of(items_of("[" * 3000)), "[" * 3000)
        self.assertEqual(text_of(items_of("[/a" * 1000)), "[[/a" * 1000)


class AskersOwn(unittest.TestCase):
    def test_what_is_handed_in_stays(self):
        items = [(0, "sign", "["), (1, "ink", "a"), (4, "end", "")]
        text_of(items)
        self.assertEqual(items, [(0, "sign", "["), (1, "ink", "a"), (4, "end", "")])

    def test_what_was_told_and_is_changed_changes_nothing(self):
        first = items_of("a[b]")
        first.append((9, "end", ""))
        first[0] = None
        self.assertEqual(items_of("a[b]"), [(0, "sign", "a"), (1, "ink", "b")])

    def test_no_list_is_told_twice(self):
        self.assertIsNot(items_of(""), items_of(""))
        empty = items_of("")
        empty.append(1)
        self.assertEqual(items_of(""), [])

    def test_the_same_question_has_the_same_answer(self):
        text = "[a[b][[\n[/"
        self.assertEqual(items_of(text), items_of(text))
        self.assertEqual(text_of(items_of(text)), text_of(items_of(text)))


if __name__ == "__main__":
    unittest.main()
