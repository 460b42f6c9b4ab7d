"""[34], [35] shades, [8] that nothing is cheaper; [3] the asker's own."""

import heapq
import itertools
import random
import unittest

from helper import OTHER_KINDS, Odd, check_trail, least_from, nodes_of, refused
from outweave.errors import NoSign
from outweave.letters import look
from outweave.marks import items_of, text_of
from outweave.rows import rows_of
from outweave.shades import Shade, shade_cost, shaded, unshaded
from outweave.trails import Trail, fair, priced, walked, way_of

COLOURS = "abcdefgh."
ALL_MARKS = [("plain", "", 2)] + [("ink", c, 3) for c in COLOURS] + [("ground", c, 4) for c in COLOURS]


def names_of(text):
    """The names of a text's moves: each mark and each sign by itself."""
    return [text_of([item]) for item in items_of(text)]


def mark_signs(text):
    return sum(len(name) for name in names_of(text) if len(name) > 1 and name != "[[")


def behind(pair, kind, value):
    if kind == "ink":
        return (value, pair[1])
    if kind == "ground":
        return (pair[0], value)
    return (".", ".")


def least_marks(letters):
    """The fewest signs of marks that show a look, by a search over all marks there are."""
    heap, gone = [(0, 0, (".", "."))], set()
    while heap:
        cost, at, pair = heapq.heappop(heap)
        if (at, pair) == (len(letters), (".", ".")):
            return cost
        if (at, pair) in gone:
            continue
        gone.add((at, pair))
        if at < len(letters):
            sign, ink, ground = letters[at]
            if pair[1] == ground and (sign == " " or pair[0] == ink):
                heapq.heappush(heap, (cost, at + 1, pair))
        for kind, value, price in ALL_MARKS:
            heapq.heappush(heap, (cost + price, at, behind(pair, kind, value)))


def rows_of_marks(most):
    """All rows of marks that have at most so many signs, each once."""
    yield ""
    for kind, value, price in ALL_MARKS:
        if price <= most:
            for rest in rows_of_marks(most - price):
                yield text_of([(0, kind, value)]) + rest


def small_looks(signs, inks, grounds, longest):
    letters = [(s, i, g) for s in signs for i in inks for g in grounds if s != " " or i == "."]
    for length in range(longest + 1):
        for row in itertools.product(letters, repeat=length):
            yield list(row)


def some_look(chance, length, inks=COLOURS, grounds=COLOURS, signs="xyZ[ ]  /"):
    row = []
    for k in range(length):
        sign = chance.choice(signs)
        row.append((sign, chance.choice(inks), chance.choice(grounds)))
    return look(row)


class ShadeTrail(unittest.TestCase):
    def test_states(self):
        shade = Shade([("x", "a", "b"), ("y", "c", "."), (" ", ".", "b")])
        self.assertIsInstance(shade, Trail)
        pairs = {(ink, ground) for ink in "ac." for ground in "b."}
        self.assertEqual(shade.last_at(), 3)
        for at in range(4):
            nodes = shade.nodes_at(at)
            self.assertEqual(len(nodes), 6)
            self.assertEqual(set(nodes), {(at, pair) for pair in pairs})
        self.assertEqual(shade.first_node(), (0, (".", ".")))
        self.assertEqual([node for node in nodes_of(shade) if shade.is_end(node)], [(3, (".", "."))])
        check_trail(self, shade)

    def test_moves(self):
        shade = Shade([("x", "a", "b"), (" ", ".", "b")])
        marks = [
            (2, "[]", (0, (".", "."))), (3, "[.]", (0, (".", "b"))), (3, "[a]", (0, ("a", "b"))),
            (4, "[/.]", (0, ("a", "."))), (4, "[/b]", (0, ("a", "b")))]
        self.assertEqual(sorted(shade.moves_from((0, ("a", "b")))), [(0, "x", (1, ("a", "b")))] + marks)
        self.assertEqual(len(shade.moves_from((0, (".", "b")))), 5)
        self.assertEqual(len(shade.moves_from((0, ("a", ".")))), 5)
        for ink in "a.":
            self.assertIn((0, " ", (2, (ink, "b"))), shade.moves_from((1, (ink, "b"))))
            self.assertEqual(len(shade.moves_from((1, (ink, ".")))), 5)
            self.assertEqual(len(shade.moves_from((2, (ink, "b")))), 5)

    def test_a_bracket_is_named_by_two(self):
        shade = Shade([("[", ".", ".")])
        self.assertIn((0, "[[", (1, (".", "."))), shade.moves_from((0, (".", "."))))

    def test_a_mark_may_lead_to_where_it_was(self):
        moves = Shade([]).moves_from((0, (".", ".")))
        self.assertEqual(sorted(moves), [(2, "[]", (0, (".", "."))), (3, "[.]", (0, (".", "."))),
                                         (4, "[/.]", (0, (".", ".")))])

    def test_of_no_letters(self):
        shade = Shade([])
        self.assertEqual((shade.last_at(), shade.nodes_at(0)), (0, [(0, (".", "."))]))
        self.assertIs(shade.is_end((0, (".", "."))), True)
        self.assertEqual(way_of(shade), (0, []))

    def test_against_all_ways(self):
        for one in small_looks("x ", "a.", ".", 3):
            shade = Shade(one)
            self.assertEqual(priced(shade), {node: least_from(shade, node) for node in nodes_of(shade)})
        for one in small_looks("x ", "a.", "b.", 1):
            shade = Shade(one)
            check_trail(self, shade)
            self.assertEqual(priced(shade), {node: least_from(shade, node) for node in nodes_of(shade)})

    def test_each_colour_in_many_letters(self):
        chance = random.Random(34)
        one = some_look(chance, 200)
        shade = Shade(one)
        self.assertEqual(len(shade.nodes_at(0)), 81)
        prices = priced(shade)
        self.assertIs(fair(shade, prices), True)
        self.assertEqual(prices[(0, (".", "."))], shade_cost(one))

    def test_what_is_handed_in_stays_and_may_be_changed_behind(self):
        one = [("x", "a", "b")]
        shade = Shade(one)
        priced(shade)
        self.assertEqual(one, [("x", "a", "b")])
        one.append(("y", "c", "d"))
        self.assertEqual((shade.last_at(), len(shade.nodes_at(0))), (1, 4))

    def test_what_was_told_and_is_changed(self):
        shade = Shade([("x", "a", "b")])
        shade.nodes_at(0).clear()
        shade.moves_from((0, (".", "."))).clear()
        self.assertEqual((len(shade.nodes_at(0)), len(shade.moves_from((0, (".", "."))))), (4, 5))


class Shaded(unittest.TestCase):
    def test_plain_looks(self):
        self.assertEqual(shaded([]), "")
        for text in ("a", "aB c", "]/.", "  "):
            self.assertEqual(shaded([(sign, ".", ".") for sign in text]), text)

    def test_a_bracket_is_written_twice(self):
        self.assertEqual(shaded([("[", ".", ".")]), "[[")
        self.assertEqual(shaded([(sign, ".", ".") for sign in "[a]"]), "[[a]")
        self.assertEqual(shaded([("[", "a", ".")] * 2), "[a][[[[[]")

    def test_colours(self):
        self.assertEqual(shaded([("x", "a", ".")]), "[a]x[]")
        self.assertEqual(shaded([("x", ".", "a")]), "[/a]x[]")
        self.assertIn(shaded([("x", "a", "b")]), ("[a][/b]x[]", "[/b][a]x[]"))
        self.assertEqual(shaded([("x", "a", "."), ("y", ".", ".")]), "[a]x[]y")
        self.assertEqual(shaded([("x", "a", "b"), ("y", ".", "b")])[-7:], "x[.]y[]")

    def test_it_ends_plain(self):
        self.assertEqual(shaded([("x", "a", "."), ("y", "b", ".")]), "[a]x[b]y[]")

    def test_blanks_show_no_ink(self):
        self.assertEqual(shaded([("x", "a", "."), (" ", ".", "."), ("y", "a", ".")]), "[a]x y[]")
        self.assertEqual(shaded([(" ", ".", "b")] * 3), "[/b]   []")
        self.assertEqual(mark_signs(shaded([("x", "a", "."), (" ", ".", "."), ("y", ".", ".")])), 5)

    def check(self, one):
        text = shaded(one)
        self.assertIs(type(text), str)
        self.assertEqual(unshaded(text), one)
        self.assertEqual(mark_signs(text), least_marks(one), one)
        self.assertEqual(shade_cost(one), mark_signs(text))
        self.assertEqual(shaded(list(one)), text)

    def test_small_looks(self):
        for one in small_looks("x ", "ab.", "c.", 3):
            self.check(one)

    def test_small_looks_are_ways_of_their_trails(self):
        for one in small_looks("x[ ", "a.", "b.", 2):
            shade = Shade(one)
            self.assertEqual(walked(shade, names_of(shaded(one))), priced(shade)[shade.first_node()])

    def test_great_looks(self):
        chance = random.Random(35)
        for length in (5, 9, 20, 60, 200):
            for inks, grounds in ((COLOURS, COLOURS), ("a.", "b."), ("abc.", "."), (".", "ab."), ("a", "b")):
                self.check(some_look(chance, length, inks, grounds))
                self.check(some_look(chance, length, inks, grounds, "x  "))

    def test_two_hundred_blanks_and_one_letter_of_each_ink(self):
        one = [(" ", ".", "abcdefgh."[k % 9]) for k in range(200)]
        one[50:58] = [("x", ink, ".") for ink in "abcdefgh"]
        self.check(one)

    def test_no_text_with_fewer_signs_in_its_marks(self):
        for one in small_looks("x ", "a.", "b.", 1):
            self.none_is_shorter(one)
        for one in ([("x", "a", "."), ("y", ".", ".")], [("x", "a", "."), (" ", ".", "."), ("y", "a", ".")]):
            self.none_is_shorter(one)

    def none_is_shorter(self, one):
        most = mark_signs(shaded(one)) - 1
        rows = list(rows_of_marks(most))
        for split in itertools.product(range(most + 1), repeat=len(one)):
            if sum(split) <= most:
                self.none_among(one, [[row for row in rows if len(row) == n] for n in split],
                                [row for row in rows if len(row) <= most - sum(split)])

    def none_among(self, one, ahead, behind_all):
        for marks in itertools.product(*ahead, behind_all):
            text = "".join(mark + letter[0] for mark, letter in zip(marks, one)) + marks[-1]
            self.assertNotEqual(unshaded(text), one)

    def test_a_part_of_two_hundred_letters(self):
        text = "".join("[" + "abcdefgh"[k % 8] + "]" + ["x", "Y", " ", "[[", " "][k % 5] for k in range(200))
        letters = rows_of(text, 200)[1]
        self.assertEqual(len(letters), 200)
        self.check(look(letters))

    def test_what_is_handed_in_stays(self):
        one = [("x", "a", "b"), (" ", ".", "b")]
        shaded(one)
        self.assertEqual(one, [("x", "a", "b"), (" ", ".", "b")])


class Unshaded(unittest.TestCase):
    def test_looks(self):
        self.assertEqual(unshaded(""), [])
        self.assertEqual(unshaded("a B"), [("a", ".", "."), (" ", ".", "."), ("B", ".", ".")])
        self.assertEqual(unshaded("[a]x[/b] y[]z"), [
            ("x", "a", "."), (" ", ".", "b"), ("y", "a", "b"), ("z", ".", ".")])
        self.assertEqual(unshaded("[[[a"), [("[", ".", "."), ("[", ".", "."), ("a", ".", ".")])
        self.assertEqual(unshaded("x[/b"), [(sign, ".", ".") for sign in "x[/b"])

    def test_texts_that_are_not_the_least(self):
        self.assertEqual(unshaded("[a][b][.]x[][]"), [("x", ".", ".")])
        self.assertEqual(unshaded("[a][/b][.][/.]"), [])

    def test_row_ends_and_anew_signs(self):
        for text in ("\n", "\t", "a\n", "\na", "a\tb", "[a]x[]\n", "[a\n", "[a\t"):
            self.assertIsNone(unshaded(text), text)

    def test_not_plain_at_the_end(self):
        for text in ("[a]", "[/a]", "x[a]", "[a]x", "[a][/b]x[.]", "[a][/b]x[/.]", "[]x[/h]"):
            self.assertIsNone(unshaded(text), text)

    def test_plain_at_the_end(self):
        for text in ("[a]x[.]", "[/a]x[/.]", "[a][/b]x[.][/.]", "[a][/b]x[]", "[]", "[.]", "[/.]"):
            self.assertIsNotNone(unshaded(text), text)

    def test_it_is_the_look_of_the_row(self):
        for row in itertools.product(["x", " ", "[[", "[a]", "[/b]", "[.]", "[]", "["], repeat=4):
            text = "".join(row)
            told = unshaded(text)
            if told is not None:
                self.assertEqual(told, look(rows_of(text, 200)[1]), text)

    def test_more_letters_than_a_part_has(self):
        self.assertEqual(unshaded("x" * 3000), [("x", ".", ".")] * 3000)

    def test_refused(self):
        self.assertEqual(refused(self, NoSign, unshaded, "ab~").at, 2)
        self.assertEqual(refused(self, NoSign, unshaded, "\n~").at, 1)
        self.assertEqual(refused(self, NoSign, unshaded, "[a]~").at, 3)
        for thing in OTHER_KINDS + [Odd()]:
            if not isinstance(thing, str):
                self.assertEqual(refused(self, NoSign, unshaded, thing).at, 0)

    def test_the_askers_own(self):
        unshaded("ab").clear()
        unshaded("").append("more")
        self.assertEqual((unshaded("ab"), unshaded("")), ([("a", ".", "."), ("b", ".", ".")], []))
        self.assertEqual([type(letter) for letter in unshaded("ab")], [tuple, tuple])


if __name__ == "__main__":
    unittest.main()
