import unittest

from pagepart.errors import NoPlace
from pagepart.pages import make_page
from pagepart.walls import beneath, beside, levels, sides, uprights

from samples import (
    BACK_WHEEL, BIG, CROSS, ONE, SIDE, STEPS, WHEEL, WHEEL_WITHIN,
    grid_page, pages_by_chance, places, small_pages, strips_across, strips_down, turned,
)

ROW = make_page(24, 1, strips_across(24))
COLUMN = make_page(1, 24, strips_down(24))

# At x = 1 two walls on one line, with the box 2 between them, which lies on both sides of it.
APART = (2, 3, ((0, 0, 1, 1), (1, 0, 2, 1), (0, 1, 2, 2), (0, 2, 1, 3), (1, 2, 2, 3)))

NAMED = [ONE, CROSS, WHEEL, BACK_WHEEL, STEPS, WHEEL_WITHIN, APART, ROW, COLUMN, BIG, grid_page(6, 4, 1)]


def numbers_at(page):
    return {place: number for number, box in enumerate(page[2]) for place in places(box)}


def walls_by_places(page):
    """The upright walls, told place by place from the words of the document."""
    wide, high, boxes = page
    at = numbers_at(page)
    found = []
    for x in range(1, wide):
        parted = [y for y in range(high) if at[(x - 1, y)] != at[(x, y)]]
        for first in parted:
            if first - 1 not in parted:
                last = first
                while last in parted:
                    last += 1
                found.append((x, first, last))
    return found


def beside_by_places(page):
    at = numbers_at(page)
    pairs = {(at[(x, y)], at[(x + 1, y)]) for x, y in at if (x + 1, y) in at}
    return sorted((one, other) for one, other in pairs if one != other)


def beneath_by_places(page):
    at = numbers_at(page)
    pairs = {(at[(x, y)], at[(x, y + 1)]) for x, y in at if (x, y + 1) in at}
    return sorted((one, other) for one, other in pairs if one != other)


def low_pages():
    return small_pages() + [page for page in NAMED if page != BIG]


class Walls(unittest.TestCase):
    def told(self, page, upright, level):
        self.assertEqual(uprights(page), upright)
        self.assertEqual(levels(page), level)

    def test_one_box_has_no_walls(self):
        self.told(ONE, [], [])
        self.told((7, 3, ((0, 0, 7, 3),)), [], [])
        self.told((SIDE, SIDE, ((0, 0, SIDE, SIDE),)), [], [])

    def test_side_by_side_and_one_beneath_the_other(self):
        self.told((5, 3, ((0, 0, 2, 3), (2, 0, 5, 3))), [(2, 0, 3)], [])
        self.told((3, 5, ((0, 0, 3, 2), (0, 2, 3, 5))), [], [(2, 0, 3)])
        self.told(ROW, [(x, 0, 1) for x in range(1, 24)], [])
        self.told(COLUMN, [], [(y, 0, 1) for y in range(1, 24)])

    def test_four_boxes_that_meet_in_one_place(self):
        self.told(CROSS, [(1, 0, 2)], [(1, 0, 2)])

    def test_wheels_either_way_round(self):
        self.told(WHEEL, [(1, 1, 3), (2, 0, 2)], [(1, 0, 2), (2, 1, 3)])
        self.told(BACK_WHEEL, [(1, 0, 2), (2, 1, 3)], [(1, 1, 3), (2, 0, 2)])

    def test_on_one_line_but_apart(self):
        self.told(APART, [(1, 0, 1), (1, 2, 3)], [(1, 0, 2), (2, 0, 2)])
        self.told(turned(APART), [(1, 0, 2), (2, 0, 2)], [(1, 0, 1), (1, 2, 3)])

    def test_a_wall_with_other_boxes_on_both_sides(self):
        page = (2, 4, ((0, 0, 1, 1), (1, 0, 2, 2), (0, 1, 1, 3), (1, 2, 2, 4), (0, 3, 1, 4)))
        self.told(page, [(1, 0, 4)], [(1, 0, 1), (2, 1, 2), (3, 0, 1)])

    def test_an_ordinary_page(self):
        self.told(STEPS, [(1, 2, 6), (4, 0, 6)], [(2, 0, 4), (3, 1, 4), (5, 4, 7)])

    def test_twenty_four_boxes(self):
        self.told(grid_page(6, 4, 1), [(x, 0, 4) for x in range(1, 6)], [(y, 0, 6) for y in range(1, 4)])
        self.told(grid_page(3, 8, 5), [(5, 0, 40), (10, 0, 40)], [(y, 0, 15) for y in range(5, 40, 5)])

    def test_as_wide_and_high_as_may_be(self):
        self.told(BIG, [(1, 0, SIDE)], [(49999, 1, SIDE)])
        strips = [(k * 2000, 0, k * 2000 + 2000, SIDE) for k in range(23)] + [(46000, 0, SIDE, SIDE)]
        page = make_page(SIDE, SIDE, strips)
        self.told(page, [(x, 0, SIDE) for x in range(2000, 46001, 2000)], [])
        self.told(turned(page), [], [(y, 0, SIDE) for y in range(2000, 46001, 2000)])

    def test_sorted_by_number_and_not_by_figures(self):
        page = (11, 2, tuple((x, y, x + 1, y + 1) for y in range(2) for x in range(11)))
        self.told(page, [(x, 0, 2) for x in range(1, 11)], [(1, 0, 11)])

    def test_place_by_place(self):
        for page in low_pages() + [page for page in pages_by_chance(2) if page[0] < 10]:
            self.told(page, walls_by_places(page), walls_by_places(turned(page)))

    def test_sorted_and_no_two_of_one_line_meet(self):
        for page in NAMED + pages_by_chance(3):
            for told in (uprights(page), levels(page)):
                self.assertEqual(told, sorted(told))
                for one, other in zip(told, told[1:]):
                    self.assertTrue(one[0] < other[0] or one[2] < other[1], (page, one, other))

    def test_kinds(self):
        for told in (uprights(STEPS), levels(STEPS)):
            self.assertIs(type(told), list)
            for wall in told:
                self.assertIs(type(wall), tuple)
                self.assertEqual([type(part) for part in wall], [int] * 3)

    def test_by_name(self):
        self.assertEqual(uprights(page=CROSS), [(1, 0, 2)])
        self.assertEqual(levels(page=CROSS), [(1, 0, 2)])


class Sides(unittest.TestCase):
    def refused(self, page, number):
        with self.assertRaises(NoPlace, msg=(page, number)) as caught:
            sides(page, number)
        self.assertIs(type(caught.exception), NoPlace)

    def all_of(self, page):
        return [sides(page, number) for number in range(len(page[2]))]

    def test_one_box(self):
        self.assertEqual(self.all_of(ONE), [(-1, 0, -1, 0)])
        self.assertEqual(self.all_of((SIDE, SIDE, ((0, 0, SIDE, SIDE),))), [(-1, 0, -1, 0)])

    def test_side_by_side_and_one_beneath_the_other(self):
        self.assertEqual(self.all_of(ROW), [(k - 1, k, -1, 0) for k in range(24)])
        self.assertEqual(self.all_of(COLUMN), [(-1, 0, k - 1, k) for k in range(24)])

    def test_four_boxes_that_meet_in_one_place(self):
        self.assertEqual(self.all_of(CROSS), [(-1, 0, -1, 0), (0, 1, -1, 0), (-1, 0, 0, 1), (0, 1, 0, 1)])

    def test_wheels_either_way_round(self):
        self.assertEqual(
            self.all_of(WHEEL),
            [(-1, 1, -1, 0), (1, 2, -1, 1), (-1, 0, 0, 2), (0, 1, 0, 1), (0, 2, 1, 2)],
        )
        self.assertEqual(
            self.all_of(BACK_WHEEL),
            [(-1, 0, -1, 1), (0, 2, -1, 0), (0, 1, 0, 1), (1, 2, 0, 2), (-1, 1, 1, 2)],
        )

    def test_on_one_line_but_apart(self):
        self.assertEqual(
            self.all_of(APART),
            [(-1, 0, -1, 0), (0, 2, -1, 0), (-1, 2, 0, 1), (-1, 1, 1, 2), (1, 2, 1, 2)],
        )

    def test_an_ordinary_page(self):
        self.assertEqual(
            self.all_of(STEPS),
            [(-1, 1, -1, 0), (1, 2, -1, 2), (-1, 0, 0, 3), (0, 1, 0, 1), (0, 1, 1, 3), (1, 2, 2, 3)],
        )

    def test_as_wide_and_high_as_may_be(self):
        self.assertEqual(self.all_of(BIG), [(-1, 0, -1, 1), (0, 1, -1, 0), (0, 1, 0, 1)])

    def test_each_side_lies_at_its_wall(self):
        for page in small_pages() + NAMED + pages_by_chance(2):
            wide, high, boxes = page
            for number, (left, top, right, below) in enumerate(boxes):
                told = sides(page, number)
                self.lies_at(uprights(page), told[0], told[1], (left, right, wide), (top, below))
                self.lies_at(levels(page), told[2], told[3], (top, below, high), (left, right))

    def lies_at(self, walls, near, far, spread, along):
        begin, end, border = spread
        if begin == 0:
            self.assertEqual(near, -1)
        else:
            self.covers(walls, near, begin, along)
        if end == border:
            self.assertEqual(far, len(walls))
        else:
            self.covers(walls, far, end, along)

    def covers(self, walls, number, place, along):
        self.assertTrue(0 <= number < len(walls))
        x, first, last = walls[number]
        self.assertEqual(x, place)
        self.assertTrue(first <= along[0] and along[1] <= last)

    def test_no_box_of_that_number(self):
        for page in NAMED:
            many = len(page[2])
            for number in (-1, -2, -many, -many - 1, -50000, -(2 ** 64), -(10 ** 300)):
                self.refused(page, number)
            for number in (many, many + 1, many + 24, 50000, 2 ** 64, 10 ** 300):
                self.refused(page, number)

    def test_kinds(self):
        for number in range(5):
            told = sides(WHEEL, number)
            self.assertIs(type(told), tuple)
            self.assertEqual([type(part) for part in told], [int] * 4)

    def test_by_name(self):
        self.assertEqual(sides(page=WHEEL, box=3), (0, 1, 0, 1))


class BesideAndBeneath(unittest.TestCase):
    def told(self, page, across, down):
        self.assertEqual(beside(page), across)
        self.assertEqual(beneath(page), down)

    def test_one_box(self):
        self.told(ONE, [], [])

    def test_side_by_side_and_one_beneath_the_other(self):
        self.told(ROW, [(k, k + 1) for k in range(23)], [])
        self.told(COLUMN, [], [(k, k + 1) for k in range(23)])

    def test_at_a_corner_alone_is_neither(self):
        self.told(CROSS, [(0, 1), (2, 3)], [(0, 2), (1, 3)])
        self.told((2, 2, ((0, 0, 2, 1), (0, 1, 1, 2), (1, 1, 2, 2))), [(1, 2)], [(0, 1), (0, 2)])

    def test_wheels_either_way_round(self):
        self.told(
            WHEEL,
            [(0, 1), (2, 3), (2, 4), (3, 1)],
            [(0, 2), (0, 3), (1, 4), (3, 4)],
        )
        self.told(
            BACK_WHEEL,
            [(0, 1), (0, 2), (2, 3), (4, 3)],
            [(0, 4), (1, 2), (1, 3), (2, 4)],
        )

    def test_the_left_one_first_though_its_number_be_greater(self):
        self.assertIn((3, 1), beside(WHEEL))
        self.assertNotIn((1, 3), beside(WHEEL))

    def test_as_wide_and_high_as_may_be(self):
        self.told(BIG, [(0, 1), (0, 2)], [(1, 2)])

    def test_on_one_line_but_apart(self):
        self.told(APART, [(0, 1), (3, 4)], [(0, 2), (1, 2), (2, 3), (2, 4)])

    def test_twenty_four_boxes(self):
        self.told(
            grid_page(6, 4, 3),
            [(k, k + 1) for k in range(24) if k % 6 != 5],
            [(k, k + 6) for k in range(18)],
        )

    def test_place_by_place(self):
        for page in low_pages() + [page for page in pages_by_chance(2) if page[0] < 10]:
            self.told(page, beside_by_places(page), beneath_by_places(page))

    def test_each_pair_once_and_sorted(self):
        for page in NAMED + pages_by_chance(3):
            across, down = beside(page), beneath(page)
            self.assertEqual(across, sorted(set(across)))
            self.assertEqual(down, sorted(set(down)))
            both = [tuple(sorted(pair)) for pair in across + down]
            self.assertEqual(len(both), len(set(both)))

    def test_kinds(self):
        for told in (beside(STEPS), beneath(STEPS)):
            self.assertIs(type(told), list)
            for pair in told:
                self.assertIs(type(pair), tuple)
                self.assertEqual([type(number) for number in pair], [int] * 2)

    def test_by_name(self):
        self.assertEqual(beside(page=CROSS), [(0, 1), (2, 3)])
        self.assertEqual(beneath(page=CROSS), [(0, 2), (1, 3)])


class ListsTold(unittest.TestCase):
    def test_new_ones_each_time(self):
        for ask in (uprights, levels, beside, beneath):
            for page in NAMED:
                one = ask(page)
                stood = list(one)
                other = ask(page)
                self.assertIsNot(one, other)
                one.append("changed")
                one.reverse()
                self.assertEqual(other, stood)
                other.clear()
                self.assertEqual(ask(page), stood)

    def test_what_was_told_before_changes_no_sides(self):
        before = [sides(WHEEL, number) for number in range(5)]
        for ask in (uprights, levels, beside, beneath):
            ask(WHEEL).clear()
        self.assertEqual([sides(WHEEL, number) for number in range(5)], before)

    def test_no_two_are_one(self):
        told = [ask(page) for ask in (uprights, levels, beside, beneath) for page in (ONE, CROSS)]
        self.assertEqual(len({id(one) for one in told}), len(told))


if __name__ == "__main__":
    unittest.main()
