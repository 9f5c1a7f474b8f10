import itertools
import unittest

from pagepart.cutting import is_stuck, stuck_piece, tree_of
from pagepart.pages import make_page
from pagepart.pictures import read_picture
from pagepart.trees import boxes_of, is_tree, show_tree

from samples import (
    BACK_WHEEL, BIG, CROSS, ONE, SIDE, STEPS, WHEEL, WHEEL_WITHIN,
    broad_tree, grid_page, page_by_chance, pages_by_chance, pages_of, small_pages, strips_across, strips_down, turned,
)

# A wheel beside a wheel.
TWO_WHEELS = read_picture(["aabffg", "cdbhig", "ceehjj"])

# A wheel whose middle box is a wheel again: two stuck pieces, one within the other.
WHEEL_IN_WHEEL = read_picture(["aaaab", "cffgb", "chigb", "chjjb", "ceeee"])

# A wheel whose middle is two boxes.
LONG_WHEEL = read_picture(["aaab", "cdeb", "cfff"])

FAR = (-(10 ** 300), -(2 ** 64), -50001, -1, 50001, 2 ** 64, 10 ** 300)


def boxes_within(page, piece):
    left, top, right, below = piece
    return [box for box in page[2] if left <= box[0] and box[2] <= right and top <= box[1] and box[3] <= below]


def own_is_stuck(page, piece):
    """Told place by place: filled by whole boxes, two or more, and each line goes through one of them."""
    left, top, right, below = piece
    if not (0 <= left < right <= page[0] and 0 <= top < below <= page[1]):
        return False
    for box in page[2]:
        apart = box[2] <= left or right <= box[0] or box[3] <= top or below <= box[1]
        if not apart and box not in boxes_within(page, piece):
            return False
    boxes = boxes_within(page, piece)
    across = all(any(box[0] < x < box[2] for box in boxes) for x in range(left + 1, right))
    down = all(any(box[1] < y < box[3] for box in boxes) for y in range(top + 1, below))
    return len(boxes) > 1 and across and down


def rectangles(wide, high):
    """All tuples of four numbers on the page and one place around it, turned ones among them."""
    return itertools.product(range(-1, wide + 2), range(-1, high + 2), range(-1, wide + 2), range(-1, high + 2))


class Cutting(unittest.TestCase):
    def has_tree(self, page, text):
        tree = tree_of(page)
        self.assertTrue(is_tree(tree), (page, tree))
        self.assertEqual(show_tree(tree), text)
        self.assertIs(stuck_piece(page), None)

    def sticks(self, page, piece):
        self.assertEqual(tree_of(page), "stuck")
        self.assertEqual(stuck_piece(page), piece)
        self.assertIs(is_stuck(page, piece), True)


class TreesOfPages(Cutting):
    def test_one_box(self):
        self.assertEqual(tree_of(ONE), 0)
        self.has_tree(ONE, "0")
        self.has_tree((SIDE, SIDE, ((0, 0, SIDE, SIDE),)), "0")

    def test_side_by_side_and_one_beneath_the_other(self):
        self.has_tree(read_picture(["ab"]), "(|0 1)")
        self.has_tree(read_picture(["a", "b"]), "(-0 1)")
        self.assertEqual(tree_of(make_page(24, 1, strips_across(24))), broad_tree("|", 24))
        self.assertEqual(tree_of(make_page(1, 24, strips_down(24))), broad_tree("-", 24))

    def test_all_cuts_at_once(self):
        self.has_tree(read_picture(["abbcdd", "abbcdd"]), "(|0 1 2 3)")
        self.has_tree(read_picture(["aa", "bb", "bb", "cc"]), "(-0 1 2)")

    def test_upright_cuts_come_first(self):
        self.has_tree(CROSS, "(|(-0 2) (-1 3))")
        self.has_tree(grid_page(3, 2, 2), "(|(-0 3) (-1 4) (-2 5))")
        self.has_tree(grid_page(2, 3, 7), "(|(-0 2 4) (-1 3 5))")
        self.has_tree(grid_page(6, 4, 1), "(|" + " ".join(f"(-{k} {k + 6} {k + 12} {k + 18})" for k in range(6)) + ")")

    def test_level_cuts_behind_them(self):
        self.has_tree(read_picture(["aa", "bc"]), "(-0 (|1 2))")
        self.has_tree(read_picture(["ab", "cc"]), "(-(|0 1) 2)")
        self.has_tree(read_picture(["ab", "ac"]), "(|0 (-1 2))")
        self.has_tree(read_picture(["ac", "bc"]), "(|(-0 2) 1)")
        self.has_tree(read_picture(["aab", "cdd"]), "(-(|0 1) (|2 3))")
        self.has_tree(read_picture(["ab", "cb", "cd"]), "(|(-0 2) (-1 3))")

    def test_numbers_stand_by_place_and_not_by_size(self):
        self.has_tree(read_picture(["ab", "ab", "cb"]), "(|(-0 2) 1)")
        self.has_tree(STEPS, "(|(-0 (|2 (-3 4))) (-1 5))")

    def test_by_turns(self):
        self.has_tree(read_picture(["abb", "acd"]), "(|0 (-1 (|2 3)))")
        self.has_tree(read_picture(["aaaa", "bccc", "bddd", "bddd"]), "(-0 (|1 (-2 3)))")
        self.has_tree(read_picture(["aaaa", "bccc", "bdef", "bdgg"]), "(-0 (|1 (-2 (|3 (-(|4 5) 6)))))")

    def test_as_deep_as_may_be(self):
        page = spiral(24)
        self.assertEqual(len(page[2]), 24)
        tree = tree_of(page)
        self.assertEqual(boxes_of(tree), 24)
        deep = 0
        while isinstance(tree, tuple):
            self.assertEqual(len(tree[1]), 2)
            tree = [part for part in tree[1] if isinstance(part, tuple) or part == 23][0]
            deep += 1
        self.assertEqual(deep, 23)

    def test_as_wide_and_high_as_may_be(self):
        self.has_tree(BIG, "(|0 (-1 2))")
        self.has_tree(turned(BIG), "(-0 (|1 2))")

    def test_the_only_one_of_its_form(self):
        for page in small_pages() + pages_by_chance(0):
            tree = tree_of(page)
            if tree != "stuck":
                self.assertTrue(is_tree(tree))
                self.assertEqual(boxes_of(tree), len(page[2]))
                self.assertEqual(self.piece_of(page, tree), (0, 0, page[0], page[1]))

    def piece_of(self, page, tree):
        """The piece that a tree fills: its parts lie by one another, and level cuts only where no upright one is."""
        if not isinstance(tree, tuple):
            return page[2][tree]
        kind, parts = tree
        pieces = [self.piece_of(page, part) for part in parts]
        near, far, begin, end = (0, 2, 1, 3) if kind == "|" else (1, 3, 0, 2)
        for one, other in zip(pieces, pieces[1:]):
            self.assertEqual(one[far], other[near])
            self.assertEqual((one[begin], one[end]), (other[begin], other[end]))
        piece = pieces[0][:2] + pieces[-1][2:]
        if kind == "-":
            boxes = boxes_within(page, piece)
            for x in {box[0] for box in boxes if box[0] > piece[0]}:
                self.assertTrue(any(box[0] < x < box[2] for box in boxes))
        return piece

    def test_pages_made_by_halves_have_trees(self):
        for page in pages_by_chance(0):
            self.assertTrue(is_tree(tree_of(page)))
            self.assertIs(stuck_piece(page), None)

    def test_kinds(self):
        self.assertIs(type(tree_of(ONE)), int)
        self.assertIs(type(tree_of(CROSS)), tuple)
        self.assertIs(type(tree_of(WHEEL)), str)

    def test_by_name(self):
        self.assertEqual(tree_of(page=CROSS), ("|", (("-", (0, 2)), ("-", (1, 3)))))


def spiral(many):
    """A strip is cut off, above and at the left by turns: a tree as deep as there can be."""
    boxes = []
    left = top = 0
    for number in range(many - 1):
        if number % 2:
            boxes.append((left, top, left + 1, 20))
            left += 1
        else:
            boxes.append((left, top, 20, top + 1))
            top += 1
    return make_page(20, 20, boxes + [(left, top, 20, 20)])


class StuckPages(Cutting):
    def test_wheels_either_way_round(self):
        self.sticks(WHEEL, (0, 0, 3, 3))
        self.sticks(BACK_WHEEL, (0, 0, 3, 3))

    def test_wheels_of_other_sizes(self):
        self.sticks(LONG_WHEEL, (0, 0, 4, 3))
        self.sticks(turned(LONG_WHEEL), (0, 0, 3, 4))
        big = make_page(SIDE, SIDE, [
            (0, 0, 49999, 1), (49999, 0, SIDE, 49999), (1, 49999, SIDE, SIDE), (0, 1, 1, SIDE), (1, 1, 49999, 49999),
        ])
        self.sticks(big, (0, 0, SIDE, SIDE))

    def test_only_in_a_piece(self):
        self.sticks(WHEEL_WITHIN, (1, 0, 4, 3))
        self.sticks(turned(WHEEL_WITHIN), (0, 1, 3, 4))
        self.sticks(read_picture(["aaab", "ccdb", "efdb", "eggb"]), (0, 1, 3, 4))

    def test_a_cut_ahead_of_it_and_boxes_around(self):
        page = make_page(SIDE, SIDE, [
            (0, 0, SIDE, 7), (0, 7, 40000, 49000), (0, 49000, 40000, SIDE),
            (40000, 7, 49998, 8), (49998, 7, SIDE, 49999), (40001, 49999, SIDE, SIDE), (40000, 8, 40001, SIDE),
            (40001, 8, 49998, 49999),
        ])
        self.sticks(page, (40000, 7, SIDE, SIDE))

    def test_where_there_are_several(self):
        for page in (TWO_WHEELS, turned(TWO_WHEELS), WHEEL_IN_WHEEL):
            self.assertEqual(tree_of(page), "stuck")
            piece = stuck_piece(page)
            self.assertIs(is_stuck(page, piece), True)
            self.assertIs(own_is_stuck(page, piece), True)
            for again in range(3):
                self.assertEqual(stuck_piece(page), piece)
        for piece in ((0, 0, 3, 3), (3, 0, 6, 3)):
            self.assertIs(is_stuck(TWO_WHEELS, piece), True)
        for piece in ((0, 0, 5, 5), (1, 1, 4, 4)):
            self.assertIs(is_stuck(WHEEL_IN_WHEEL, piece), True)
        self.assertIs(is_stuck(TWO_WHEELS, (0, 0, 6, 3)), False)

    def test_twenty_four_boxes(self):
        pages = [page_by_chance(seed, 60, 60, 24, 3) for seed in range(40)]
        self.assertEqual([len(page[2]) for page in pages], [24] * 40)
        self.assertGreater(sum(self.one_of_the_two(page) for page in pages), 20)

    def test_just_one_of_the_two(self):
        self.assertEqual(sum(self.one_of_the_two(page) for page in pages_of(3, 3)), 2)
        for page in small_pages() + pages_by_chance(0):
            self.one_of_the_two(page)
        for wheels in (1, 2, 3):
            self.assertGreater(sum(self.one_of_the_two(page) for page in pages_by_chance(wheels)), 20)

    def one_of_the_two(self, page):
        tree = tree_of(page)
        piece = stuck_piece(page)
        if tree == "stuck":
            self.assertIs(type(piece), tuple)
            self.assertEqual([type(part) for part in piece], [int] * 4)
            self.assertIs(is_stuck(page, piece), True)
            self.assertGreaterEqual(len(boxes_within(page, piece)), 5)
            return 1
        self.assertTrue(is_tree(tree))
        self.assertIs(piece, None)
        return 0

    def test_by_name(self):
        self.assertEqual(stuck_piece(page=WHEEL), (0, 0, 3, 3))
        self.assertIs(is_stuck(page=WHEEL, piece=(0, 0, 3, 3)), True)


class StuckPiecesToldApart(unittest.TestCase):
    def never(self, page, pieces):
        for piece in pieces:
            self.assertIs(is_stuck(page, piece), False, (page, piece))

    def test_place_by_place(self):
        for page in (WHEEL, BACK_WHEEL, WHEEL_WITHIN, LONG_WHEEL, TWO_WHEELS, WHEEL_IN_WHEEL, CROSS, ONE, STEPS):
            for piece in rectangles(page[0], page[1]):
                self.assertIs(is_stuck(page, piece), own_is_stuck(page, piece), (page, piece))

    def test_small_pages_place_by_place(self):
        for page in pages_of(3, 3) + pages_of(4, 3)[::7]:
            found = [piece for piece in rectangles(page[0], page[1]) if own_is_stuck(page, piece)]
            self.assertEqual([piece for piece in rectangles(page[0], page[1]) if is_stuck(page, piece)], found)
            self.assertEqual(stuck_piece(page) in found, bool(found))

    def test_through_a_box(self):
        self.never(WHEEL, [(0, 0, 2, 2), (1, 1, 3, 3), (0, 0, 3, 2), (0, 1, 3, 3), (1, 0, 3, 3), (1, 0, 2, 3)])
        self.never(WHEEL_WITHIN, [(0, 0, 4, 2), (1, 0, 4, 2), (1, 1, 4, 3), (1, 0, 4, 4)])

    def test_of_one_box(self):
        for page in (ONE, CROSS, WHEEL, BACK_WHEEL, STEPS, BIG, WHEEL_WITHIN, WHEEL_IN_WHEEL):
            self.never(page, page[2])

    def test_with_a_cut(self):
        self.never(CROSS, [(0, 0, 2, 2), (0, 0, 2, 1), (0, 0, 1, 2), (1, 0, 2, 2), (0, 1, 2, 2)])
        self.never(BIG, [(0, 0, SIDE, SIDE), (1, 0, SIDE, SIDE)])
        self.never(WHEEL_WITHIN, [(0, 0, 4, 4), (0, 0, 4, 3)])
        self.never(TWO_WHEELS, [(0, 0, 6, 3)])

    def test_beyond_the_page(self):
        self.never(WHEEL, [(-1, 0, 3, 3), (0, -1, 3, 3), (0, 0, 4, 3), (0, 0, 3, 4), (-1, -1, 4, 4), (-9, -9, 50, 50)])
        self.never(WHEEL_WITHIN, [(1, -1, 4, 3), (1, 0, 5, 3)])

    def test_turned_about(self):
        self.never(WHEEL, [
            (3, 0, 0, 3), (0, 3, 3, 0), (3, 3, 0, 0), (0, 0, 0, 3), (0, 0, 3, 0), (0, 0, 0, 0), (3, 3, 3, 3), (1, 1, 1, 1),
        ])
        self.never(WHEEL_WITHIN, [(4, 0, 1, 3), (1, 3, 4, 0), (4, 3, 1, 0), (0, 1, 3, 4)])

    def test_far_outside(self):
        for page in (ONE, WHEEL, WHEEL_WITHIN, BIG):
            self.never(page, itertools.product(FAR, repeat=4))
            self.never(page, [(50, 50, 53, 53), (-3, -3, 0, 0), (page[0], 0, page[0] + 3, 3), (0, page[1], 3, page[1] + 3)])
            for number, far in itertools.product(range(4), FAR):
                piece = [0, 0, page[0], page[1]]
                piece[number] = far
                self.never(page, [tuple(piece)])

    def test_no_piece_of_a_page_with_a_tree(self):
        for page in [page for page in pages_of(3, 3) if stuck_piece(page) is None][::5] + [STEPS, CROSS, grid_page(4, 3, 1)]:
            self.never(page, rectangles(page[0], page[1]))


if __name__ == "__main__":
    unittest.main()
