import itertools
import unittest

from pagepart.errors import NoPage, NoPlace
from pagepart.pages import box_at, is_whole, make_page

from samples import (
    BIG, BIG_BOXES, SIDE, STEPS, STEPS_BOXES, WHEEL, WHEEL_BOXES,
    no_whole_numbers, places, small_pages, strips_across, strips_down,
)


class OwnNumber(int):
    pass


class WholeNumbers(unittest.TestCase):
    def test_whole_numbers_of_any_size(self):
        for thing in (0, 1, -1, 2, 255, 50000, 2 ** 63, -(2 ** 64), 10 ** 400, -(10 ** 400), OwnNumber(7)):
            self.assertIs(is_whole(thing), True, thing)

    def test_truths_are_none(self):
        self.assertIs(is_whole(True), False)
        self.assertIs(is_whole(False), False)

    def test_things_of_other_kinds(self):
        for thing in no_whole_numbers():
            self.assertIs(is_whole(thing), False, thing)

    def test_by_name(self):
        self.assertIs(is_whole(thing=3), True)


class PagesMade(unittest.TestCase):
    def test_one_box(self):
        self.assertEqual(make_page(1, 1, [(0, 0, 1, 1)]), (1, 1, ((0, 0, 1, 1),)))
        self.assertEqual(make_page(7, 3, [(0, 0, 7, 3)]), (7, 3, ((0, 0, 7, 3),)))

    def test_kinds(self):
        page = make_page(3, 3, list(WHEEL_BOXES))
        self.assertIs(type(page), tuple)
        self.assertEqual(len(page), 3)
        self.assertIs(type(page[2]), tuple)
        for box in page[2]:
            self.assertIs(type(box), tuple)
            self.assertEqual([type(part) for part in box], [int] * 4)

    def test_boxes_in_every_order(self):
        for boxes in itertools.permutations(WHEEL_BOXES):
            self.assertEqual(make_page(3, 3, list(boxes)), WHEEL)
        for boxes in itertools.permutations(STEPS_BOXES):
            self.assertEqual(make_page(7, 6, list(boxes)), STEPS)

    def test_sorted_by_top_then_left(self):
        page = make_page(2, 2, [(1, 1, 2, 2), (1, 0, 2, 1), (0, 1, 1, 2), (0, 0, 1, 1)])
        self.assertEqual(page, (2, 2, ((0, 0, 1, 1), (1, 0, 2, 1), (0, 1, 1, 2), (1, 1, 2, 2))))

    def test_sorted_by_number_and_not_by_figures(self):
        boxes = [(0, 0, 9, 1), (9, 0, 10, 1), (10, 0, 100, 1), (0, 1, 100, 9), (0, 9, 100, 10), (0, 10, 100, 20)]
        self.assertEqual(make_page(100, 20, boxes[::-1]), (100, 20, tuple(boxes)))

    def test_twenty_four_boxes(self):
        across = strips_across(24)
        self.assertEqual(make_page(24, 1, across[::-1]), (24, 1, tuple(across)))
        down = strips_down(24)
        self.assertEqual(make_page(1, 24, down[::-1]), (1, 24, tuple(down)))
        grid = [(x, y, x + 1, y + 1) for y in range(4) for x in range(6)]
        self.assertEqual(make_page(6, 4, sorted(grid)), (6, 4, tuple(grid)))

    def test_as_wide_and_high_as_may_be(self):
        self.assertEqual(make_page(SIDE, SIDE, [(0, 0, SIDE, SIDE)]), (SIDE, SIDE, ((0, 0, SIDE, SIDE),)))
        self.assertEqual(make_page(SIDE, SIDE, BIG_BOXES[::-1]), BIG)
        self.assertEqual(make_page(SIDE, 1, [(0, 0, SIDE, 1)]), (SIDE, 1, ((0, 0, SIDE, 1),)))
        self.assertEqual(make_page(1, SIDE, [(0, 0, 1, SIDE)]), (1, SIDE, ((0, 0, 1, SIDE),)))
        rows = [(0, k * 2000, SIDE, k * 2000 + 2000) for k in range(23)] + [(0, 46000, SIDE, SIDE)]
        self.assertEqual(make_page(SIDE, SIDE, rows[::-1]), (SIDE, SIDE, tuple(rows)))

    def test_somewhat_wider_is_not_refused(self):
        self.assertEqual(make_page(SIDE + 9, SIDE + 7, [(0, 0, SIDE + 9, SIDE + 7)])[0], SIDE + 9)

    def test_all_small_partings(self):
        for page in small_pages():
            wide, high, boxes = page
            self.assertEqual(make_page(wide, high, list(boxes)), page)
            self.assertEqual(make_page(wide, high, list(boxes[::-1])), page)

    def test_the_list_stays_and_is_not_kept(self):
        boxes = WHEEL_BOXES[::-1]
        page = make_page(3, 3, boxes)
        self.assertEqual(boxes, WHEEL_BOXES[::-1])
        boxes[0] = (0, 0, 3, 3)
        boxes.append((9, 9, 10, 10))
        boxes.pop(1)
        self.assertEqual(page, WHEEL)
        boxes.clear()
        self.assertEqual(page, WHEEL)

    def test_the_list_stays_where_it_is_refused(self):
        boxes = [(1, 0, 2, 1), None, (0, 0, 1, 1)]
        with self.assertRaises(NoPage):
            make_page(2, 1, boxes)
        self.assertEqual(boxes, [(1, 0, 2, 1), None, (0, 0, 1, 1)])

    def test_by_name(self):
        self.assertEqual(make_page(wide=2, high=1, boxes=[(0, 0, 2, 1)]), (2, 1, ((0, 0, 2, 1),)))


class PagesRefused(unittest.TestCase):
    def refused(self, wide, high, boxes):
        with self.assertRaises(NoPage, msg=(wide, high, boxes)) as caught:
            make_page(wide, high, boxes)
        self.assertIs(type(caught.exception), NoPage)

    def test_no_boxes_and_too_many(self):
        self.refused(1, 1, [])
        self.refused(0, 0, [])
        for many in (25, 26, 2000):
            self.refused(many, 1, strips_across(many))
            self.refused(1, many, strips_down(many))
        self.refused(5, 5, [(x, y, x + 1, y + 1) for y in range(5) for x in range(5)])

    def test_a_place_in_no_box(self):
        self.refused(2, 1, [(0, 0, 1, 1)])
        self.refused(1, 2, [(0, 1, 1, 2)])
        for k in range(5):
            self.refused(3, 3, WHEEL_BOXES[:k] + WHEEL_BOXES[k + 1:])
        self.refused(SIDE, SIDE, [(0, 0, SIDE, 49999), (0, 49999, 49999, SIDE)])

    def test_a_place_in_two_boxes(self):
        self.refused(1, 1, [(0, 0, 1, 1), (0, 0, 1, 1)])
        self.refused(3, 1, [(0, 0, 2, 1), (1, 0, 3, 1)])
        self.refused(1, 3, [(0, 0, 1, 2), (0, 1, 1, 3)])
        self.refused(3, 3, [(0, 0, 3, 3), (1, 1, 2, 2)])
        self.refused(3, 3, [(1, 1, 2, 2), (0, 0, 3, 3)])
        for box in WHEEL_BOXES:
            self.refused(3, 3, WHEEL_BOXES + [box])
        self.refused(SIDE, SIDE, [(0, 0, SIDE, 49999), (0, 49999, SIDE, SIDE), (49999, 49998, SIDE, 49999)])

    def test_areas_alone_are_no_page(self):
        self.refused(2, 1, [(0, 0, 1, 1), (0, 0, 1, 1)])
        self.refused(4, 1, [(0, 0, 2, 1), (1, 0, 3, 1)])
        self.refused(3, 3, [(0, 0, 2, 2), (1, 1, 3, 3), (0, 2, 1, 3)])
        self.refused(3, 3, [(0, 1, 3, 2), (1, 0, 2, 3), (0, 0, 1, 1), (2, 0, 3, 1), (0, 2, 1, 3)])
        self.refused(2, 2, [(0, 0, 1, 2), (2, 0, 3, 2)])
        self.refused(2, 2, [(0, 0, 4, 1)])

    def test_a_box_beyond_the_page(self):
        self.refused(2, 2, [(0, 0, 3, 2)])
        self.refused(2, 2, [(0, 0, 2, 3)])
        self.refused(2, 2, [(-1, 0, 2, 2)])
        self.refused(2, 2, [(0, -1, 2, 2)])
        self.refused(2, 2, [(-1, 0, 1, 2)])
        self.refused(2, 2, [(0, -1, 2, 1)])
        self.refused(2, 2, [(1, 0, 3, 2)])
        self.refused(2, 2, [(0, 1, 2, 3)])
        self.refused(2, 2, [(0, 0, 2, 2), (2, 0, 3, 2)])
        self.refused(2, 2, [(0, 0, 2, 2), (0, 2, 2, 3)])
        self.refused(2, 2, [(0, 0, 2, 2), (-1, -1, 0, 0)])
        self.refused(2, 2, [(10 ** 30, 0, 10 ** 30 + 2, 2)])
        self.refused(SIDE, SIDE, [(0, 0, SIDE, SIDE + 1)])

    def test_a_box_without_places(self):
        self.refused(1, 1, [(0, 0, 1, 1), (0, 0, 0, 1)])
        self.refused(1, 1, [(0, 0, 1, 1), (0, 1, 1, 1)])
        self.refused(1, 1, [(1, 1, 0, 0)])
        self.refused(1, 1, [(1, 0, 0, 1)])
        self.refused(1, 1, [(0, 1, 1, 0)])
        self.refused(1, 1, [(0, 0, 1, 1), (1, 0, 0, 1)])
        self.refused(2, 2, [(0, 0, 2, 2), (1, 1, 1, 2)])
        self.refused(2, 2, [(0, 0, 2, 2), (2, 2, 2, 2)])

    def test_a_width_or_height_of_anything(self):
        for thing in no_whole_numbers() + [0, -1, -(10 ** 30)]:
            self.refused(thing, 1, [(0, 0, 1, 1)])
            self.refused(1, thing, [(0, 0, 1, 1)])
            self.refused(thing, thing, [(0, 0, 1, 1)])
            self.refused(thing, thing, [])
        self.refused(-1, -1, [(0, 0, 1, 1)])
        self.refused(1.0, 1.0, [(0, 0, 1, 1)])

    def test_anything_in_the_list(self):
        for thing in no_whole_numbers() + [0, 3, "0011", [0, 0, 1, 1], ((0, 0, 1, 1),)]:
            self.refused(1, 1, [thing])
            self.refused(1, 1, [thing, (0, 0, 1, 1)])
            self.refused(1, 1, [(0, 0, 1, 1), thing])
            self.refused(1, 1, [thing] * 24)
            self.refused(1, 1, [thing] * 2000)
        self.refused(3, 3, [list(box) for box in WHEEL_BOXES])
        within_itself = []
        within_itself.append(within_itself)
        self.refused(1, 1, within_itself)

    def test_anything_in_a_box(self):
        for thing in no_whole_numbers():
            for k in range(4):
                box = [0, 0, 1, 1]
                box[k] = thing
                self.refused(1, 1, [tuple(box)])
                self.refused(1, 1, [(0, 0, 1, 1), tuple(box)])

    def test_truths_in_a_box(self):
        for box in itertools.product((0, False), (0, False), (1, True), (1, True)):
            if any(isinstance(part, bool) for part in box):
                self.refused(1, 1, [box])

    def test_too_few_and_too_many_in_a_box(self):
        self.refused(1, 1, [()])
        self.refused(1, 1, [(0, 0)])
        self.refused(1, 1, [(0, 0, 1)])
        self.refused(1, 1, [(0, 0, 1, 1, 1)])
        self.refused(1, 1, [(0, 0, 1, 1), (0, 0, 1, 1, 0)])

    def test_what_is_no_list(self):
        for thing in no_whole_numbers() + [3, ((0, 0, 1, 1),), {(0, 0, 1, 1): True}]:
            self.refused(1, 1, thing)

    def test_every_small_list(self):
        edges = list(itertools.combinations(range(-1, 3), 2))
        boxes = [(left, top, right, below) for left, right in edges for top, below in edges]
        pages = 0
        for many in (1, 2, 3):
            for chosen in itertools.combinations_with_replacement(boxes, many):
                for wide, high in ((1, 1), (2, 1), (2, 2)):
                    pages += self.told_apart(wide, high, list(chosen))
        self.assertEqual(pages, 1 + 2 + 7)

    def told_apart(self, wide, high, boxes):
        filled = sorted(place for box in boxes for place in places(box))
        if filled != places((0, 0, wide, high)):
            self.refused(wide, high, boxes)
            return 0
        by_top_then_left = tuple(sorted(boxes, key=lambda box: (box[1], box[0])))
        self.assertEqual(make_page(wide, high, boxes), (wide, high, by_top_then_left))
        return 1


class BoxOfAPlace(unittest.TestCase):
    def outside(self, page, x, y):
        with self.assertRaises(NoPlace, msg=(page, x, y)) as caught:
            box_at(page, x, y)
        self.assertIs(type(caught.exception), NoPlace)

    def test_the_wheel(self):
        told = [[box_at(WHEEL, x, y) for x in range(3)] for y in range(3)]
        self.assertEqual(told, [[0, 0, 1], [2, 3, 1], [2, 4, 4]])

    def test_each_place_of_small_pages(self):
        for page in small_pages():
            for number, box in enumerate(page[2]):
                for x, y in places(box):
                    self.assertEqual(box_at(page, x, y), number)

    def test_corners(self):
        for page in (WHEEL, STEPS, BIG):
            for number, (left, top, right, below) in enumerate(page[2]):
                for x in (left, right - 1):
                    for y in (top, below - 1):
                        told = box_at(page, x, y)
                        self.assertEqual(told, number)
                        self.assertIs(type(told), int)

    def test_both_sides_of_each_border(self):
        for page in (WHEEL, STEPS, BIG):
            wide, high, boxes = page
            for number, (left, top, right, below) in enumerate(boxes):
                for x, y in ((left - 1, top), (right, top), (left, top - 1), (left, below), (right, below)):
                    if 0 <= x < wide and 0 <= y < high:
                        other = boxes[box_at(page, x, y)]
                        self.assertNotEqual(other, boxes[number])
                        self.assertTrue(other[0] <= x < other[2] and other[1] <= y < other[3])
                    else:
                        self.outside(page, x, y)

    def test_borders_of_a_big_page(self):
        self.assertEqual(box_at(BIG, 0, 0), 0)
        self.assertEqual(box_at(BIG, 0, 49999), 0)
        self.assertEqual(box_at(BIG, 1, 0), 1)
        self.assertEqual(box_at(BIG, 1, 49998), 1)
        self.assertEqual(box_at(BIG, 1, 49999), 2)
        self.assertEqual(box_at(BIG, 49999, 49998), 1)
        self.assertEqual(box_at(BIG, 49999, 49999), 2)

    def test_all_twenty_four(self):
        page = make_page(24, 1, strips_across(24))
        self.assertEqual([box_at(page, x, 0) for x in range(24)], list(range(24)))

    def test_next_to_the_page(self):
        for page in (WHEEL, STEPS, (1, 1, ((0, 0, 1, 1),))):
            wide, high, boxes = page
            for y in range(-2, high + 2):
                for x in (-2, -1, wide, wide + 1):
                    self.outside(page, x, y)
            for x in range(-2, wide + 2):
                for y in (-2, -1, high, high + 1):
                    self.outside(page, x, y)

    def test_far_outside(self):
        far = (-(10 ** 300), -(2 ** 64), -50001, -1, 50000, 50001, 2 ** 64, 10 ** 300)
        for page in (WHEEL, STEPS, BIG):
            for number in far:
                self.outside(page, number, 0)
                self.outside(page, 0, number)
                for other in far:
                    self.outside(page, number, other)

    def test_by_name(self):
        self.assertEqual(box_at(page=WHEEL, x=2, y=1), 1)


if __name__ == "__main__":
    unittest.main()
