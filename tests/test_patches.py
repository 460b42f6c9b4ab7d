"""[72], [73] patches and the change of a row, [8] that no patch is cheaper; [3] the asker's own."""

import itertools
import random
import unittest

from helper import check_trail, least_from, letters_of, nodes_of
from outweave.patches import Change, cost_of, patch, patched
from outweave.pictures import blank, drawn
from outweave.trails import Trail, fair, priced, way_of


def row_of(text):
    """A row of cells, plain; a great letter has its two."""
    cells = []
    for sign in text:
        cells.append((sign, ".", "."))
        if sign.isupper():
            cells.append(("", ".", "."))
    return cells


def rows_of_cells(wide, signs):
    if wide == 0:
        yield ""
    for sign in signs:
        size = 2 if sign.isupper() else 1
        if size <= wide:
            for rest in rows_of_cells(wide - size, signs):
                yield sign + rest


def bounds(row):
    return [col for col, cell in enumerate(row) if cell[0] != ""] + [len(row)]


def all_patches(one, other):
    """All rows of writes of whole letters that don't touch and make the one row into the other."""
    places = bounds(other)
    for count in range(len(places) // 2 + 1):
        for ends in itertools.combinations(places, 2 * count):
            writes = [(0, lo, other[lo:hi]) for lo, hi in zip(ends[::2], ends[1::2])]
            if patched([one], writes) == [other]:
                yield writes


def check_patch(case, one, other, writes):
    """What holds of every patch."""
    case.assertIs(type(writes), list)
    case.assertEqual(patched(one, writes), other)
    for row, col, cells in writes:
        case.assertIs(type(cells), list)
        case.assertGreater(len(cells), 0)
        case.assertEqual(cells, other[row][col:col + len(cells)])
        case.assertIn(col, bounds(other[row]))
        case.assertIn(col + len(cells), bounds(other[row]))
    for first, second in zip(writes, writes[1:]):
        case.assertLessEqual(first[0], second[0])
        if first[0] == second[0]:
            case.assertLess(first[1] + len(first[2]), second[1])
    case.assertEqual(cost_of(writes), sum(4 + len(cells) for row, col, cells in writes))


def some_picture(chance, high, wide):
    picture = blank(high, wide)
    for row in range(high):
        line = [(chance.choice("ab C"), chance.choice("..a"), chance.choice("...b"), 0) for k in range(wide // 2)]
        picture = drawn(picture, ("a", row, 0, 1, wide, "cut"), [line])
    return picture


class ChangeTrail(unittest.TestCase):
    def test_nodes(self):
        change = Change(row_of("abcd"), row_of("aBd"))
        self.assertIsInstance(change, Trail)
        self.assertEqual((change.first_node(), change.last_at()), ((0, 0), 3))
        self.assertEqual([change.nodes_at(at) for at in range(4)], [[(at, 0), (at, 1)] for at in range(4)])
        self.assertEqual([node for node in nodes_of(change) if change.is_end(node)], [(3, 0), (3, 1)])
        check_trail(self, change)

    def test_moves(self):
        change = Change(row_of("abcd"), row_of("aBd"))
        self.assertEqual(sorted(change.moves_from((0, 0))), [(0, "pass", (1, 0)), (5, "begin", (1, 1))])
        self.assertEqual(sorted(change.moves_from((0, 1))), [(0, "pass", (1, 0)), (1, "on", (1, 1))])
        self.assertEqual(change.moves_from((1, 0)), [(6, "begin", (2, 1))])
        self.assertEqual(change.moves_from((1, 1)), [(2, "on", (2, 1))])
        self.assertEqual(sorted(change.moves_from((2, 1))), [(0, "pass", (3, 0)), (1, "on", (3, 1))])
        self.assertEqual((change.moves_from((3, 0)), change.moves_from((3, 1))), ([], []))

    def test_all_cells_of_a_great_letter_are_held_against(self):
        other = row_of("B")
        for one in ([("B", "a", "."), ("", ".", ".")], [("B", ".", "."), ("", "a", ".")], row_of("bb")):
            self.assertEqual(Change(one, other).moves_from((0, 0)), [(6, "begin", (1, 1))])
        self.assertEqual(len(Change(row_of("B"), other).moves_from((0, 0))), 2)

    def test_colours_count(self):
        self.assertEqual(len(Change([("a", "b", ".")], [("a", ".", ".")]).moves_from((0, 0))), 1)
        self.assertEqual(len(Change([("a", ".", "b")], [("a", ".", ".")]).moves_from((0, 0))), 1)

    def test_against_all_ways(self):
        for one, other in itertools.product(rows_of_cells(4, "abC"), repeat=2):
            change = Change(row_of(one), row_of(other))
            prices = priced(change)
            self.assertEqual(prices, {node: least_from(change, node) for node in nodes_of(change)})
            self.assertIs(fair(change, prices), True)

    def test_rows_stay_and_may_be_changed_behind(self):
        one, other = row_of("abc"), row_of("abd")
        change = Change(one, other)
        way_of(change)
        self.assertEqual((one, other), (row_of("abc"), row_of("abd")))
        one.clear()
        other.append(("x", ".", "."))
        self.assertEqual((change.last_at(), way_of(change)), (3, (5, ["pass", "pass", "begin"])))

    def test_what_was_told_and_is_changed(self):
        change = Change(row_of("ab"), row_of("ac"))
        change.nodes_at(0).clear()
        change.moves_from((0, 0)).clear()
        change.moves_from((2, 0)).append("more")
        self.assertEqual((len(change.nodes_at(0)), len(change.moves_from((0, 0)))), (2, 2))
        self.assertEqual(change.moves_from((2, 0)), [])


class Patch(unittest.TestCase):
    def patch(self, one, other):
        return patch([row_of(one)], [row_of(other)])

    def test_alike(self):
        self.assertEqual(self.patch("abC", "abC"), [])
        self.assertEqual(patch(blank(12, 40), blank(12, 40)), [])

    def test_one_cell(self):
        self.assertEqual(self.patch("abcd", "abxd"), [(0, 2, row_of("x"))])

    def test_one_cell_apart(self):
        self.assertEqual(self.patch("abcd", "xbyd"), [(0, 0, row_of("xby"))])

    def test_three_four_and_five_cells_apart(self):
        self.assertEqual(self.patch("abcde", "xbcdy"), [(0, 0, row_of("xbcdy"))])
        self.assertEqual(cost_of(self.patch("abcdef", "xbcdey")), 10)
        self.assertEqual(self.patch("abcdefg", "xbcdefy"), [(0, 0, row_of("x")), (0, 6, row_of("y"))])

    def test_a_great_letter_in_the_place_of_two_signs(self):
        self.assertEqual(self.patch("abcd", "aBd"), [(0, 1, row_of("B"))])
        self.assertEqual(self.patch("aBd", "abcd"), [(0, 1, row_of("bc"))])

    def test_a_great_letter_that_moves_by_one(self):
        self.assertEqual(self.patch("aBB", "BaB"), [(0, 0, row_of("Ba"))])
        self.assertEqual(self.patch("aB", "Ba"), [(0, 0, row_of("Ba"))])
        self.assertEqual(self.patch("aBBa", "BBaa"), [(0, 0, row_of("BBa"))])

    def test_rows(self):
        one = [row_of("ab"), row_of("cd"), row_of("ef")]
        other = [row_of("xb"), row_of("cd"), row_of("ey")]
        self.assertEqual(patch(one, other), [(0, 0, row_of("x")), (2, 1, row_of("y"))])

    def test_colours(self):
        one, other = [[("a", ".", "."), ("b", ".", ".")]], [[("a", "c", "."), ("b", ".", ".")]]
        self.assertEqual(patch(one, other), [(0, 0, [("a", "c", ".")])])

    def test_no_patch_is_cheaper(self):
        for one, other in itertools.product(rows_of_cells(5, "abC"), repeat=2):
            writes = self.patch(one, other)
            check_patch(self, [row_of(one)], [row_of(other)], writes)
            least = min(cost_of(rows) for rows in all_patches(row_of(one), row_of(other)))
            self.assertEqual(cost_of(writes), least, (one, other))

    def test_no_patch_is_cheaper_in_longer_rows(self):
        chance = random.Random(72)
        for again in range(150):
            one = [(chance.choice("ab"), ".", ".") for k in range(12)]
            other = [cell if chance.random() < 0.7 else ("x", "a", ".") for cell in one]
            if chance.random() < 0.5:
                other[5:7] = [("C", ".", "b"), ("", ".", "b")]
            least = min(cost_of(rows) for rows in all_patches(one, other))
            writes = patch([one], [other])
            check_patch(self, [one], [other], writes)
            self.assertEqual(cost_of(writes), least)

    def test_pictures(self):
        chance = random.Random(73)
        for high, wide in ((1, 2), (3, 7), (12, 40)):
            for again in range(15):
                one, other = some_picture(chance, high, wide), some_picture(chance, high, wide)
                writes = patch(one, other)
                check_patch(self, one, other, writes)
                self.assertEqual(cost_of(writes), sum(
                    priced(Change(one[row], other[row]))[(0, 0)] for row in range(high)))


class Patched(unittest.TestCase):
    def test_cell_by_cell_in_order(self):
        writes = [(1, 1, row_of("xy")), (0, 0, row_of("z")), (1, 2, row_of("w"))]
        self.assertEqual(patched([row_of("abc"), row_of("def")], writes), [row_of("zbc"), row_of("dxw")])

    def test_whatever_stood_there(self):
        self.assertEqual(patched([row_of("ABC")], [(0, 1, row_of("xx"))]), [
            [("A", ".", "."), ("x", ".", "."), ("x", ".", "."), ("", ".", "."), ("C", ".", "."), ("", ".", ".")]])
        self.assertEqual(patched([row_of("ab")], [(0, 1, [("", "a", "b")])]), [[("a", ".", "."), ("", "a", "b")]])

    def test_no_writes(self):
        self.assertEqual(patched(blank(2, 3), []), blank(2, 3))
        self.assertEqual(patched(blank(2, 3), [(0, 0, [])]), blank(2, 3))


class CostOf(unittest.TestCase):
    def test_costs(self):
        self.assertEqual(cost_of([]), 0)
        self.assertEqual(cost_of([(0, 0, row_of("a"))]), 5)
        self.assertEqual(cost_of([(0, 0, row_of("aB")), (3, 2, row_of("c"))]), 12)
        self.assertIs(type(cost_of([])), int)


class AskersOwn(unittest.TestCase):
    def test_what_is_handed_in_stays(self):
        one, other = [row_of("abc"), row_of("def")], [row_of("xbc"), row_of("dey")]
        writes = patch(one, other)
        kept = [(row, col, list(cells)) for row, col, cells in writes]
        patched(one, writes)
        cost_of(writes)
        self.assertEqual((one, other), ([row_of("abc"), row_of("def")], [row_of("xbc"), row_of("dey")]))
        self.assertEqual(writes, kept)

    def test_a_patch_that_was_told_and_is_changed(self):
        one, other = [row_of("abc")], [row_of("xyz")]
        writes = patch(one, other)
        writes[0][2].clear()
        writes.clear()
        self.assertEqual(other, [row_of("xyz")])
        self.assertEqual(patch(one, other), [(0, 0, row_of("xyz"))])
        writes = patch(one, other)
        other[0].clear()
        self.assertEqual(writes, [(0, 0, row_of("xyz"))])

    def test_a_patched_picture_that_is_changed(self):
        picture, writes = [row_of("ab"), row_of("cd")], [(0, 0, row_of("x"))]
        told = patched(picture, writes)
        for row in told:
            row.clear()
        self.assertEqual((picture, writes), ([row_of("ab"), row_of("cd")], [(0, 0, row_of("x"))]))
        told = patched(picture, writes)
        picture[1].clear()
        writes[0][2].clear()
        self.assertEqual(told, [row_of("xb"), row_of("cd")])

    def test_drawn_pictures(self):
        one = blank(1, 6)
        other = drawn(one, ("a", 0, 1, 1, 4, "cut"), [letters_of("aB")])
        self.assertEqual(patch(one, other), [(0, 1, row_of("aB"))])
        self.assertEqual(patch(other, one), [(0, 1, [(" ", ".", ".")] * 3)])


if __name__ == "__main__":
    unittest.main()
