"""[81], [82], [7] the board; [3] the asker's own, [5] that what is refused changes nothing."""

import random
import unittest

from helper import OTHER_KINDS, Odd, letters_of, refused, signs_of, some_pieces, some_text, woven
from outweave.boards import Board
from outweave.errors import Closed, NoHand, NoSign, NoSize
from outweave.marks import Reader
from outweave.patches import cost_of, patch, patched
from outweave.pictures import blank, drawn
from outweave.rooms import Plan
from outweave.rows import Maker, rows_of
from outweave.views import lines_of

ANN = ("ann", 0, 0, 2, 4, "cells")
BO = ("bo", 1, 4, 2, 4, "words")
SIX = [("a", 0, 0, 2, 9, "cut"), ("b", 0, 9, 3, 2, "cells"), ("c", 2, 0, 4, 8, "words"),
       ("d", 6, 0, 6, 12, "even"), ("e", 3, 12, 1, 28, "even"), ("f", 4, 12, 8, 5, "words")]


def board_of(most=200, keep=50, rooms=(ANN, BO), high=3, wide=8):
    return Board(Plan(high, wide, list(rooms)), most, keep)


def signs(picture):
    return ["".join(cell[0] or "_" for cell in row) for row in picture]


def fed(board, pieces):
    told = []
    for name, piece in pieces:
        told.append(board.close(name) if piece is None else board.feed(name, piece))
    return told


def plain_telling(text, closed, most):
    """All parts and the open letters of what came of one hand, but for what is held back."""
    if closed:
        maker = Maker(most)
        parts = [part for item in Reader().feed(text) for part in maker.put(item)]
        reader = Reader()
        reader.feed(text)
        parts += [part for item in reader.finish() for part in maker.put(item)]
        return parts + maker.finish(), []
    reader = Reader()
    reader.feed(text)
    return rows_of(text[:len(text) - len(reader.held_text())], most)


def expected_picture(plan, texts, closed, most, keep):
    picture = blank(*plan.screen_size())
    for name, text in texts.items():
        parts, letters = plain_telling(text, name in closed, most)
        room = plan.room_of(name)
        picture = drawn(picture, room, lines_of(parts[-keep:], letters, room))
    return picture


class Pictures(unittest.TestCase):
    def test_at_first_it_is_blank(self):
        self.assertEqual(board_of().shown_picture(), blank(3, 8))

    def test_what_is_fed_is_shown_at_once(self):
        board = board_of()
        board.feed("ann", "hello")
        self.assertEqual(signs(board.shown_picture()), ["hell    ", "o       ", "        "])
        board.feed("bo", "a bc\nD")
        self.assertEqual(signs(board.shown_picture()), ["hell    ", "o   a bc", "    D_  "])
        board.feed("ann", "\nx")
        self.assertEqual(signs(board.shown_picture()), ["o       ", "x   a bc", "    D_  "])

    def test_what_is_held_back_is_not_shown(self):
        board = board_of()
        self.assertEqual(board.feed("ann", "a[/"), [(0, 0, [("a", ".", ".")])])
        self.assertEqual(board.feed("ann", "b"), [])
        self.assertEqual(board.feed("ann", "]c"), [(0, 1, [("c", ".", "b")])])

    def test_what_is_held_back_is_shown_by_a_close(self):
        board = board_of()
        board.feed("ann", "a[/")
        self.assertEqual(board.close("ann"), [(0, 1, [("[", ".", "."), ("/", ".", ".")])])
        self.assertEqual(signs(board.shown_picture())[0], "a[/     ")

    def test_a_close_that_changes_nothing(self):
        board = board_of()
        board.feed("ann", "ab")
        self.assertEqual(board.close("ann"), [])
        self.assertEqual(board.close("bo"), [])

    def test_a_close_that_empties_and_one_that_ends_a_going_on_part(self):
        board = board_of(most=1)
        board.feed("ann", "ab\t[a]")
        self.assertEqual(signs(board.shown_picture())[:2], ["a       ", "        "])
        board.close("ann")
        self.assertEqual(board.kept_parts("ann"), [(letters_of("a"), "more"), ([], "whole")])

    def test_anew(self):
        board = board_of()
        board.feed("ann", "12%\t")
        self.assertEqual(signs(board.shown_picture())[0], "12%     ")
        board.feed("ann", "3")
        self.assertEqual(signs(board.shown_picture())[0], "3       ")
        board.feed("ann", "\t[a]")
        self.assertEqual(board.shown_picture(), blank(3, 8))

    def test_colours_and_blanks(self):
        board = board_of()
        board.feed("ann", "[a][/b]x Y")
        self.assertEqual(board.shown_picture()[0][:4], [
            ("x", "a", "b"), (" ", ".", "b"), ("Y", "a", "b"), ("", "a", "b")])

    def test_a_keep_of_one(self):
        board = board_of(keep=1, rooms=[("ann", 0, 0, 3, 4, "cut")])
        board.feed("ann", "a\nb\nc")
        self.assertEqual(signs(board.shown_picture()), ["b       ", "c       ", "        "])

    def test_six_rooms_on_the_greatest_screen(self):
        board = board_of(rooms=SIX, high=12, wide=40)
        for room in SIX:
            board.feed(room[0], "hello THERE world " * 10)
        self.assertEqual(len(board.shown_picture()), 12)
        self.assertEqual(signs(board.shown_picture())[0][:9], "hello T_ ")


class Kept(unittest.TestCase):
    def test_the_last_ones(self):
        board = board_of(keep=2)
        self.assertEqual((board.kept_parts("ann"), board.let_go("ann")), ([], 0))
        for count, row in enumerate(["a\n", "b\n", "c\n", "d\ne\nf\n", ""]):
            board.feed("ann", row)
        self.assertEqual([signs_of(letters) for letters, word in board.kept_parts("ann")], ["e", "f"])
        self.assertEqual((board.let_go("ann"), board.let_go("bo")), (4, 0))

    def test_a_keep_of_one_and_of_fifty(self):
        for keep in (1, 50):
            board = board_of(keep=keep)
            board.feed("ann", "x\n" * 60)
            self.assertEqual((len(board.kept_parts("ann")), board.let_go("ann")), (keep, 60 - keep))

    def test_words_and_places(self):
        board = board_of(most=2)
        board.feed("ann", "abc\nd")
        self.assertEqual(board.kept_parts("ann"), [
            (letters_of("ab"), "more"), ([("c", ".", ".", 2)], "whole")])
        self.assertEqual(board.open_letters("ann"), [("d", ".", ".", 4)])

    def test_a_most_of_one_and_of_two_hundred(self):
        board = board_of(most=1)
        board.feed("ann", "abc")
        self.assertEqual(len(board.kept_parts("ann")), 2)
        board = board_of(most=200)
        board.feed("ann", "a" * 201)
        self.assertEqual((len(board.kept_parts("ann")), len(board.open_letters("ann"))), (1, 1))

    def test_behind_a_close(self):
        board = board_of(keep=1)
        board.feed("ann", "a\nb\nc[")
        board.close("ann")
        self.assertEqual(board.kept_parts("ann"), [([("c", ".", ".", 4), ("[", ".", ".", 5)], "whole")])
        self.assertEqual((board.open_letters("ann"), board.let_go("ann")), ([], 2))
        self.assertEqual(board.shown_lines("ann"), [[("c", ".", ".", 4), ("[", ".", ".", 5)]])

    def test_shown_lines(self):
        board = board_of()
        self.assertEqual(board.shown_lines("ann"), [])
        board.feed("ann", "abcdef\n\nx")
        self.assertEqual([signs_of(line) for line in board.shown_lines("ann")], ["", "x"])

    def test_its_plan(self):
        plan = Plan(3, 8, [ANN, BO])
        told = Board(plan, 200, 50).its_plan()
        self.assertEqual((told.screen_size(), told.room_names()), ((3, 8), ["ann", "bo"]))
        self.assertEqual(told.room_of("bo"), BO)


class Patches(unittest.TestCase):
    def test_from_the_picture_as_it_was(self):
        board = board_of()
        self.assertEqual(board.feed("ann", "ab"), [(0, 0, [("a", ".", "."), ("b", ".", ".")])])
        self.assertEqual(board.feed("ann", "c"), [(0, 2, [("c", ".", ".")])])
        self.assertEqual(board.feed("ann", "\n"), [])
        self.assertEqual(board.feed("ann", ""), [])
        self.assertEqual(board.feed("bo", "x"), [(1, 4, [("x", ".", ".")])])

    def test_each_is_the_cheapest_and_together_they_make_the_picture(self):
        chance = random.Random(82)
        for again in range(12):
            board = board_of(most=chance.choice([1, 5, 200]), keep=chance.choice([1, 3, 50]), rooms=SIX,
                             high=12, wide=40)
            laid = blank(12, 40)
            before = board.shown_picture()
            texts = {room[0]: some_text(chance, 60) for room in SIX}
            for name, piece in woven(chance, texts):
                writes = board.close(name) if piece is None else board.feed(name, piece)
                laid = patched(laid, writes)
                picture = board.shown_picture()
                self.assertEqual(laid, picture)
                self.assertEqual(cost_of(writes), cost_of(patch(before, picture)))
                if before == picture:
                    self.assertEqual(writes, [])
                before = picture


class Whole(unittest.TestCase):
    def test_at_every_moment_the_plain_telling(self):
        chance = random.Random(81)
        for again in range(12):
            most, keep = chance.choice([1, 2, 9, 200]), chance.choice([1, 2, 50])
            board = board_of(most, keep, SIX, 12, 40)
            plan = board.its_plan()
            came, closed = {room[0]: "" for room in SIX}, set()
            for name, piece in woven(chance, {room[0]: some_text(chance, 70) for room in SIX}):
                fed(board, [(name, piece)])
                came[name] += piece or ""
                if piece is None:
                    closed.add(name)
                self.assertEqual(board.shown_picture(), expected_picture(plan, came, closed, most, keep))
                parts, letters = plain_telling(came[name], name in closed, most)
                self.assertEqual(board.kept_parts(name), parts[-keep:])
                self.assertEqual(board.let_go(name), max(0, len(parts) - keep))
                self.assertEqual(board.open_letters(name), letters)
                self.assertEqual(board.shown_lines(name), lines_of(parts[-keep:], letters, plan.room_of(name)))

    def test_whatever_the_weaving_and_the_cutting(self):
        chance = random.Random(83)
        for again in range(10):
            texts = {room[0]: some_text(chance, chance.choice([5, 80, 300])) for room in SIX}
            pictures = []
            for weaving in range(4):
                board = board_of(40, 7, SIX, 12, 40)
                fed(board, woven(chance, texts))
                pictures.append(board.shown_picture())
            self.assertEqual(pictures, [pictures[0]] * 4)

    def test_three_thousand_signs(self):
        chance = random.Random(84)
        texts = {"ann": some_text(chance, 3000), "bo": some_text(chance, 3000)}
        for most, keep in ((200, 50), (1, 1)):
            board = board_of(most, keep)
            fed(board, woven(chance, texts))
            expected = expected_picture(board.its_plan(), texts, texts, most, keep)
            self.assertEqual(board.shown_picture(), expected)


class Refused(unittest.TestCase):
    def test_sizes(self):
        plan = Plan(3, 8, [ANN, BO])
        for thing in [0, -1, Odd()] + OTHER_KINDS:
            refused(self, NoSize, Board, plan, thing, 50)
            refused(self, NoSize, Board, plan, 200, thing)
        refused(self, NoSize, Board, plan, 201, 50)
        refused(self, NoSize, Board, plan, 200, 51)
        refused(self, NoSize, Board, plan, 201, 51)

    def test_no_hand(self):
        board = board_of()
        for name in ["cy", "an", "Ann", Odd(), ["ann"], ("ann",)] + OTHER_KINDS:
            self.assertIs(refused(self, NoHand, board.feed, name, "~").name, name)
            for asked in (board.close, board.kept_parts, board.open_letters, board.let_go, board.shown_lines):
                self.assertIs(refused(self, NoHand, asked, name).name, name)

    def test_closed(self):
        board = board_of()
        board.close("ann")
        for piece in ("", "x", "~", None, True):
            self.assertEqual(refused(self, Closed, board.feed, "ann", piece).name, "ann")
        self.assertEqual(refused(self, Closed, board.close, "ann").name, "ann")

    def test_no_sign(self):
        board = board_of()
        board.feed("ann", "abc")
        self.assertEqual(refused(self, NoSign, board.feed, "ann", "de~").at, 2)
        for thing in OTHER_KINDS + [Odd()]:
            if not isinstance(thing, str):
                self.assertEqual(refused(self, NoSign, board.feed, "ann", thing).at, 0)

    def test_what_is_refused_changes_nothing(self):
        chance = random.Random(5)
        text = some_text(chance, 120)
        board, other = board_of(9, 3), board_of(9, 3)
        for piece in some_pieces(chance, text):
            refused(self, NoSign, board.feed, "ann", piece + "\nx~")
            refused(self, NoHand, board.feed, "cy", piece)
            self.assertEqual(board.shown_picture(), other.shown_picture())
            self.assertEqual(board.feed("ann", piece), other.feed("ann", piece))
            self.assertEqual(board.kept_parts("ann"), other.kept_parts("ann"))
        self.assertEqual(board.close("ann"), other.close("ann"))
        refused(self, Closed, board.feed, "ann", "x\n")
        self.assertEqual(board.let_go("ann"), other.let_go("ann"))


class AskersOwn(unittest.TestCase):
    def test_what_was_told_and_is_changed(self):
        board = board_of()
        writes = board.feed("ann", "ab\ncd")
        writes[0][2].clear()
        writes.clear()
        for row in board.shown_picture():
            row.clear()
        board.kept_parts("ann")[0][0].clear()
        board.kept_parts("ann").clear()
        board.open_letters("ann").clear()
        for line in board.shown_lines("ann"):
            line.clear()
        board.shown_lines("ann").clear()
        self.assertEqual(signs(board.shown_picture()), ["ab      ", "cd      ", "        "])
        self.assertEqual(board.kept_parts("ann"), [(letters_of("ab"), "whole")])
        self.assertEqual([signs_of(line) for line in board.shown_lines("ann")], ["ab", "cd"])
        self.assertEqual(signs_of(board.open_letters("ann")), "cd")
        self.assertEqual(board.feed("ann", "e"), [(1, 2, [("e", ".", ".")])])

    def test_what_was_told_stays_as_it_was(self):
        board = board_of()
        board.feed("ann", "ab\nc")
        picture, parts, letters, lines = (
            board.shown_picture(), board.kept_parts("ann"), board.open_letters("ann"), board.shown_lines("ann"))
        board.feed("ann", "\n\nxyz")
        self.assertEqual(signs(picture), ["ab      ", "c       ", "        "])
        self.assertEqual((parts, signs_of(letters)), ([(letters_of("ab"), "whole")], "c"))
        self.assertEqual([signs_of(line) for line in lines], ["ab", "c"])

    def test_kinds(self):
        board = board_of()
        told = board.feed("ann", "ab\n")
        self.assertEqual([type(thing) for thing in (told, told[0], told[0][2])], [list, tuple, list])
        self.assertEqual((type(board.kept_parts("ann")), type(board.kept_parts("ann")[0])), (list, tuple))
        self.assertIs(type(board.let_go("ann")), int)

    def test_two_boards_have_nothing_in_common(self):
        plan = Plan(3, 8, [ANN, BO])
        one, other = Board(plan, 200, 1), Board(plan, 200, 1)
        one.feed("ann", "a\nb\nc[")
        one.close("ann")
        self.assertEqual(other.shown_picture(), blank(3, 8))
        self.assertEqual((other.kept_parts("ann"), other.let_go("ann"), other.open_letters("ann")), ([], 0, []))
        self.assertEqual(other.feed("ann", ""), [])


if __name__ == "__main__":
    unittest.main()
