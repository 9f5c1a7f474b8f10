import copy
import itertools
import random
import unittest

from pagepart.errors import NoNeeds
from pagepart.pages import make_page
from pagepart.pictures import read_picture
from pagepart.pressing import chain_across, chain_down, least_places, pressed
from pagepart.walls import levels, sides, uprights

from samples import (
    BACK_WHEEL, BIG, CROSS, ONE, SIDE, STEPS, WHEEL, WHEEL_WITHIN,
    OwnThing, grid_page, no_lists, no_whole_numbers, page_by_chance, pages_by_chance, pages_of, small_pages,
    strips_across, strips_down, turned,
)

ASKS = (least_places, pressed, chain_across, chain_down)

ROW = make_page(24, 1, strips_across(24))
COLUMN = make_page(1, 24, strips_down(24))

# At x = 1 two walls on one line, with the box 2 between them, which lies on both sides of it.
APART = read_picture(["ab", "cc", "de"])

NAMED = [ONE, CROSS, WHEEL, BACK_WHEEL, STEPS, WHEEL_WITHIN, APART, turned(APART), ROW, COLUMN, BIG, grid_page(6, 4, 1)]


def needs_by_chance(page, seed, most):
    chance = random.Random(seed)
    return [(chance.randint(1, most), chance.randint(1, most)) for box in page[2]]


def pages_with_needs():
    """Pages of many makes with needs, alike ones (1, 2,000) and ones by chance among them."""
    found = []
    for seed, page in enumerate(NAMED + small_pages()[::5] + pages_by_chance(0)[::3] + pages_by_chance(3)[::2]):
        many = len(page[2])
        found.append((page, needs_by_chance(page, seed, 3)))
        found.append((page, needs_by_chance(page, seed, 2000)))
        found.append((page, [(1, 1)] * many))
        found.append((page, [(2000, 2000)] * many))
    return found


def turned_needs(page, needs):
    """The needs, with widths for heights, of the boxes of the page that is turned."""
    by_box = {(top, left, below, right): (high, wide)
              for (left, top, right, below), (wide, high) in zip(page[2], needs)}
    return [by_box[box] for box in turned(page)[2]]


def sums_to(spans, wall):
    """The sums along all ways of boxes that lead from the left border to an upright wall."""
    if wall == -1:
        return [0]
    return [ahead + need for left, right, need in spans if right == wall for ahead in sums_to(spans, left)]


def greatest_sums(page, needs):
    edges = [sides(page, number) for number in range(len(needs))]
    spans = [(edge[0], edge[1], need[0]) for edge, need in zip(edges, needs)]
    return [max(sums_to(spans, wall)) for wall in range(len(uprights(page)) + 1)]


class Needs(unittest.TestCase):
    def refused(self, page, needs):
        for ask in ASKS:
            with self.assertRaises(NoNeeds, msg=(ask, page, needs)) as caught:
                ask(page, needs)
            self.assertIs(type(caught.exception), NoNeeds)

    def test_no_list(self):
        for page in (ONE, CROSS, ROW):
            many = len(page[2])
            for thing in no_lists() + [((1, 1),) * many, {(1, 1)}, {k: (1, 1) for k in range(many)}]:
                self.refused(page, thing)
        self.refused(ONE, (1, 1))
        self.refused((1, 2, ((0, 0, 1, 1), (0, 1, 1, 2))), (1, 1))

    def test_too_few_and_too_many(self):
        for page in (ONE, CROSS, WHEEL, ROW, COLUMN, BIG):
            many = len(page[2])
            for other in (0, 1, many - 1, many + 1, many + many, 2000):
                if other != many:
                    self.refused(page, [(1, 1)] * other)

    def test_other_than_two_numbers(self):
        for need in ((), (1,), (1, 1, 1), (1, 1, 1, 1), ((1, 1),), ((1, 1), (1, 1)), (1, (1,))):
            self.everywhere(need)

    def test_no_tuple(self):
        for need in ([1, 1], [1], [], {1: 1}, {1, 2}, {}, "11", "", b"11", 1, 0, None, True, 1.5, range(1, 3), OwnThing()):
            self.everywhere(need)

    def test_numbers_beyond_the_bounds(self):
        for number in (0, -1, -2000, 2001, 2002, 50000, 10 ** 300, -(10 ** 300)):
            for need in ((number, 1), (1, number), (number, number), (number, 2000), (2000, number)):
                self.everywhere(need)

    def test_no_whole_numbers(self):
        for thing in no_whole_numbers():
            for need in ((thing, 1), (1, thing), (thing, thing)):
                self.everywhere(need)

    def everywhere(self, need):
        """The need is refused for the one box, and at each box of several."""
        self.refused(ONE, [need])
        for number in range(5):
            needs = [(1, 1)] * 5
            needs[number] = need
            self.refused(WHEEL, needs)

    def test_one_and_two_thousand_are_needs(self):
        for need in ((1, 1), (2000, 2000), (1, 2000), (2000, 1)):
            for page in (ONE, CROSS, WHEEL, ROW):
                for ask in ASKS:
                    ask(page, [need] * len(page[2]))
            self.assertEqual(least_places(ONE, [need]), ([need[0]], [need[1]]))


class LeastPlaces(unittest.TestCase):
    def told(self, page, needs, upright, level):
        self.assertEqual(least_places(page, needs), (upright, level))

    def test_one_box(self):
        self.told(ONE, [(7, 3)], [7], [3])
        self.told((SIDE, SIDE, ((0, 0, SIDE, SIDE),)), [(1, 2000)], [1], [2000])

    def test_side_by_side(self):
        self.told((5, 3, ((0, 0, 2, 3), (2, 0, 5, 3))), [(4, 2), (3, 9)], [4, 7], [9])
        needs = [(k + 1, 24 - k) for k in range(24)]
        self.told(ROW, needs, [(k + 1) * (k + 2) // 2 for k in range(24)], [24])

    def test_one_beneath_the_other(self):
        self.told((3, 5, ((0, 0, 3, 2), (0, 2, 3, 5))), [(4, 2), (3, 9)], [4], [2, 11])
        needs = [(24 - k, k + 1) for k in range(24)]
        self.told(COLUMN, needs, [24], [(k + 1) * (k + 2) // 2 for k in range(24)])

    def test_four_boxes_that_meet_in_one_place(self):
        self.told(CROSS, [(1, 2), (3, 4), (5, 6), (7, 8)], [5, 12], [4, 12])

    def test_wheels_either_way_round(self):
        needs = [(10, 1), (2, 20), (3, 30), (4, 4), (50, 5)]
        # Two ways lead to the wall at 10: of one box (10), and of two (3 + 4).
        self.told(WHEEL, needs, [3, 10, 53], [1, 20, 31])
        needs = [(3, 30), (50, 5), (4, 4), (2, 20), (10, 1)]
        self.told(BACK_WHEEL, needs, [3, 10, 53], [5, 30, 31])

    def test_the_middle_of_a_wheel(self):
        self.told(WHEEL, [(1, 1), (1, 1), (1, 1), (9, 8), (1, 1)], [1, 10, 11], [1, 9, 10])
        self.told(BACK_WHEEL, [(1, 1), (1, 1), (9, 8), (1, 1), (1, 1)], [1, 10, 11], [1, 9, 10])

    def test_on_one_line_but_apart(self):
        self.told(APART, [(1, 1), (2, 2), (3, 3), (40, 4), (5, 5)], [1, 40, 45], [2, 5, 10])
        self.told(APART, [(30, 1), (2, 2), (99, 3), (4, 4), (5, 5)], [30, 4, 99], [2, 5, 10])

    def test_walls_may_pass_one_another(self):
        # Of two walls in two rows, the one that lay further to the left comes to lie further to the right.
        page = read_picture(["abb", "ccd"])
        self.told(page, [(9, 1), (1, 1), (2, 1), (3, 1)], [9, 2, 10], [1, 2])

    def test_an_ordinary_page(self):
        needs = [(9, 2), (3, 9), (4, 1), (1, 7), (6, 1), (2, 2)]
        self.told(STEPS, needs, [4, 10, 13], [2, 9, 9, 11])

    def test_widths_and_heights_of_the_page_itself_say_nothing(self):
        for page in (ONE, CROSS, WHEEL, APART, STEPS):
            wide, high, boxes = page
            needs = needs_by_chance(page, 5, 50)
            far = make_page(wide * 7000, high * 6000, [(a * 7000, b * 6000, c * 7000, d * 6000) for a, b, c, d in boxes])
            self.assertEqual(least_places(far, needs), least_places(page, needs))

    def test_as_wide_and_high_as_may_be(self):
        self.told(BIG, [(7, 1), (2, 3), (5, 2000)], [7, 12], [3, 2003])
        strips = [(k * 2000, 0, k * 2000 + 2000, SIDE) for k in range(23)] + [(46000, 0, SIDE, SIDE)]
        page = make_page(SIDE, SIDE, strips)
        self.told(page, [(2000, 1)] * 24, list(range(2000, 48001, 2000)), [1])
        self.told(turned(page), [(1, 2000)] * 24, [1], list(range(2000, 48001, 2000)))

    def test_twenty_four_boxes(self):
        needs = [(k % 6 + 1, k // 6 + 1) for k in range(24)]
        self.told(grid_page(6, 4, 1), needs, [1, 3, 6, 10, 15, 21], [1, 3, 6, 10])
        self.told(grid_page(6, 4, 8000), needs, [1, 3, 6, 10, 15, 21], [1, 3, 6, 10])
        for seed in range(40):
            page = page_by_chance(seed, 60, 60, 24, 3)
            self.assertEqual(len(page[2]), 24)
            needs = needs_by_chance(page, seed, 2000)
            self.along_all_ways(page, needs)

    def test_along_all_ways_in_small_pages(self):
        for seed, page in enumerate(small_pages()[::3] + NAMED):
            for most in (2, 9, 2000):
                self.along_all_ways(page, needs_by_chance(page, seed, most))

    def along_all_ways(self, page, needs):
        upright = greatest_sums(page, needs)
        level = greatest_sums(turned(page), turned_needs(page, needs))
        self.told(page, needs, upright, level)

    def test_one_for_each_wall_and_one_behind_them(self):
        for page, needs in pages_with_needs():
            upright, level = least_places(page, needs)
            self.assertEqual(len(upright), len(uprights(page)) + 1)
            self.assertEqual(len(level), len(levels(page)) + 1)
            self.assertEqual(max(upright), upright[-1])
            self.assertEqual(max(level), level[-1])

    def test_by_name(self):
        self.assertEqual(least_places(page=ONE, needs=[(2, 3)]), ([2], [3]))


class Pressed(unittest.TestCase):
    def test_one_box(self):
        self.assertEqual(pressed(ONE, [(7, 3)]), [(0, 0, 7, 3)])
        self.assertEqual(pressed((SIDE, SIDE, ((0, 0, SIDE, SIDE),)), [(7, 3)]), [(0, 0, 7, 3)])

    def test_side_by_side_and_one_beneath_the_other(self):
        self.assertEqual(pressed(read_picture(["ab"]), [(4, 2), (3, 9)]), [(0, 0, 4, 9), (4, 0, 7, 9)])
        self.assertEqual(pressed(read_picture(["a", "b"]), [(4, 2), (3, 9)]), [(0, 0, 4, 2), (0, 2, 4, 11)])

    def test_wheels_either_way_round(self):
        self.assertEqual(
            pressed(WHEEL, [(10, 1), (2, 20), (3, 30), (4, 4), (50, 5)]),
            [(0, 0, 10, 1), (10, 0, 53, 20), (0, 1, 3, 31), (3, 1, 10, 20), (3, 20, 53, 31)],
        )
        self.assertEqual(
            pressed(BACK_WHEEL, [(3, 30), (50, 5), (4, 4), (2, 20), (10, 1)]),
            [(0, 0, 3, 30), (3, 0, 53, 5), (3, 5, 10, 30), (10, 5, 53, 31), (0, 30, 10, 31)],
        )

    def test_by_number_in_the_page_that_is_handed_in(self):
        # In the pressed page box 3 lies above box 2, in this one beneath it.
        page = read_picture(["ab", "cb", "cd"])
        self.assertEqual(
            pressed(page, [(1, 9), (1, 1), (1, 1), (1, 1)]),
            [(0, 0, 1, 9), (1, 0, 2, 1), (0, 9, 1, 10), (1, 1, 2, 10)],
        )

    def test_between_its_walls_at_the_least_places(self):
        for page, needs in pages_with_needs():
            upright, level = least_places(page, needs)
            across = {-1: 0, **dict(enumerate(upright))}
            down = {-1: 0, **dict(enumerate(level))}
            for number, box in enumerate(pressed(page, needs)):
                left, right, upper, lower = sides(page, number)
                self.assertEqual(box, (across[left], down[upper], across[right], down[lower]))

    def test_each_as_wide_and_high_as_it_needs(self):
        for page, needs in pages_with_needs():
            boxes = pressed(page, needs)
            self.assertEqual(len(boxes), len(page[2]))
            for (left, top, right, below), (wide, high) in zip(boxes, needs):
                self.assertGreaterEqual(right - left, wide)
                self.assertGreaterEqual(below - top, high)

    def test_they_fill_the_page_of_the_least_width_and_height(self):
        for page, needs in pages_with_needs():
            upright, level = least_places(page, needs)
            boxes = pressed(page, needs)
            made = make_page(upright[-1], level[-1], boxes)
            self.assertEqual(made[:2], (upright[-1], level[-1]))
            self.assertEqual(sorted(made[2]), sorted(boxes))
            for one, other in itertools.combinations(boxes, 2):
                apart = one[2] <= other[0] or other[2] <= one[0] or one[3] <= other[1] or other[3] <= one[1]
                self.assertTrue(apart, (page, needs, one, other))

    def test_all_small_pages(self):
        for seed, page in enumerate(small_pages()):
            needs = needs_by_chance(page, seed, 4)
            upright, level = least_places(page, needs)
            make_page(upright[-1], level[-1], pressed(page, needs))

    def test_none_of_its_make_is_less_wide_or_high(self):
        for seed, page in enumerate(pages_of(3, 3)[::4] + [WHEEL, BACK_WHEEL, APART, CROSS]):
            needs = needs_by_chance(page, seed, 2)
            upright, level = least_places(page, needs)
            self.assertTrue(self.can_be(page, needs, upright[-1]))
            self.assertFalse(self.can_be(page, needs, upright[-1] - 1))
            other = turned_needs(page, needs)
            self.assertTrue(self.can_be(turned(page), other, level[-1]))
            self.assertFalse(self.can_be(turned(page), other, level[-1] - 1))

    def can_be(self, page, needs, wide):
        """Whether upright walls at some places of so wide a page leave each box the width that it needs."""
        many = len(uprights(page))
        edges = [sides(page, number) for number in range(len(page[2]))]
        for places in itertools.product(range(1, wide), repeat=many):
            at = {-1: 0, **dict(enumerate(places)), many: wide}
            if all(at[edge[1]] - at[edge[0]] >= need[0] for edge, need in zip(edges, needs)):
                return True
        return False

    def test_pressed_again_it_is_the_same(self):
        for page, needs in pages_with_needs()[::3]:
            upright, level = least_places(page, needs)
            boxes = pressed(page, needs)
            made = make_page(upright[-1], level[-1], boxes)
            again = [needs[boxes.index(box)] for box in made[2]]
            self.assertEqual(sorted(pressed(made, again)), sorted(boxes))

    def test_kinds(self):
        boxes = pressed(STEPS, [(1, 1)] * 6)
        self.assertIs(type(boxes), list)
        for box in boxes:
            self.assertIs(type(box), tuple)
            self.assertEqual([type(part) for part in box], [int] * 4)

    def test_by_name(self):
        self.assertEqual(pressed(page=ONE, needs=[(2, 3)]), [(0, 0, 2, 3)])


class Chains(unittest.TestCase):
    def leads_across(self, page, needs, numbers):
        edges = [sides(page, number) for number in numbers]
        self.assertEqual(edges[0][0], -1)
        self.assertEqual(edges[-1][1], len(uprights(page)))
        for ahead, behind in zip(edges, edges[1:]):
            self.assertEqual(ahead[1], behind[0])
        self.assertEqual(sum(needs[number][0] for number in numbers), least_places(page, needs)[0][-1])

    def leads_down(self, page, needs, numbers):
        edges = [sides(page, number) for number in numbers]
        self.assertEqual(edges[0][2], -1)
        self.assertEqual(edges[-1][3], len(levels(page)))
        for ahead, behind in zip(edges, edges[1:]):
            self.assertEqual(ahead[3], behind[2])
        self.assertEqual(sum(needs[number][1] for number in numbers), least_places(page, needs)[1][-1])

    def test_one_box(self):
        self.assertEqual(chain_across(ONE, [(2, 3)]), [0])
        self.assertEqual(chain_down(ONE, [(2, 3)]), [0])

    def test_side_by_side_and_one_beneath_the_other(self):
        needs = [(k + 1, 2 if k == 17 else 1) for k in range(24)]
        self.assertEqual(chain_across(ROW, needs), list(range(24)))
        self.assertEqual(chain_down(ROW, needs), [17])
        needs = [(high, wide) for wide, high in needs]
        self.assertEqual(chain_across(COLUMN, needs), [17])
        self.assertEqual(chain_down(COLUMN, needs), list(range(24)))

    def test_where_just_one_is(self):
        needs = [(10, 1), (2, 20), (3, 30), (4, 4), (50, 5)]
        self.assertEqual(chain_across(WHEEL, needs), [2, 4])
        self.assertEqual(chain_down(WHEEL, needs), [0, 2])
        needs = [(1, 1), (1, 1), (1, 1), (9, 8), (1, 1)]
        self.assertEqual(chain_across(WHEEL, needs), [2, 3, 1])
        self.assertEqual(chain_down(WHEEL, needs), [0, 3, 4])
        needs = [(1, 1), (1, 1), (9, 8), (1, 1), (1, 1)]
        self.assertEqual(chain_across(BACK_WHEEL, needs), [0, 2, 3])
        self.assertEqual(chain_down(BACK_WHEEL, needs), [1, 2, 4])
        self.assertEqual(chain_across(APART, [(1, 1), (2, 2), (3, 3), (40, 4), (5, 5)]), [3, 4])
        self.assertEqual(chain_down(APART, [(1, 1), (2, 2), (3, 3), (40, 4), (5, 5)]), [1, 2, 4])
        self.assertEqual(chain_across(APART, [(30, 1), (2, 2), (99, 3), (4, 4), (5, 5)]), [2])

    def test_a_wall_is_gone_on_from_at_any_of_its_boxes(self):
        # Box 2 ends at the wall where box 1 begins, though they are not beside one another.
        self.assertEqual(chain_across(CROSS, [(1, 1), (9, 1), (9, 1), (1, 1)]), [2, 1])
        self.assertEqual(chain_down(CROSS, [(1, 1), (1, 9), (1, 9), (1, 1)]), [1, 2])

    def test_it_leads_from_border_to_border_by_the_least_width(self):
        for page, needs in pages_with_needs():
            self.leads_across(page, needs, chain_across(page, needs))
            self.leads_down(page, needs, chain_down(page, needs))

    def test_where_several_are_it_is_always_the_same_one(self):
        for page in NAMED:
            needs = [(1, 1)] * len(page[2])
            across, down = chain_across(page, needs), chain_down(page, needs)
            self.leads_across(page, needs, across)
            self.leads_down(page, needs, down)
            for again in range(3):
                self.assertEqual(chain_across(page, list(needs)), across)
                self.assertEqual(chain_down(page, list(needs)), down)

    def test_told_twice_it_is_the_same(self):
        for page, needs in pages_with_needs()[::5]:
            self.assertEqual(chain_across(page, needs), chain_across(page, list(needs)))
            self.assertEqual(chain_down(page, needs), chain_down(page, list(needs)))

    def test_kinds(self):
        for told in (chain_across(STEPS, [(1, 1)] * 6), chain_down(STEPS, [(1, 1)] * 6)):
            self.assertIs(type(told), list)
            self.assertEqual({type(number) for number in told}, {int})

    def test_by_name(self):
        self.assertEqual(chain_across(page=ONE, needs=[(2, 3)]), [0])
        self.assertEqual(chain_down(page=ONE, needs=[(2, 3)]), [0])


class WhatIsHandedInAndTold(unittest.TestCase):
    def test_needs_stay_as_they_were(self):
        for page in NAMED:
            needs = needs_by_chance(page, 3, 40)
            stood = copy.deepcopy(needs)
            for ask in ASKS:
                ask(page, needs)
                self.assertEqual(needs, stood)

    def test_needs_may_be_changed_behind(self):
        needs = [(4, 2), (3, 9)]
        page = read_picture(["ab"])
        told = [ask(page, needs) for ask in ASKS]
        needs[0] = (50, 50)
        needs.append((1, 1))
        self.assertEqual(told, [([4, 7], [9]), [(0, 0, 4, 9), (4, 0, 7, 9)], [0, 1], [1]])
        self.assertEqual(least_places(page, [(4, 2), (3, 9)]), ([4, 7], [9]))

    def test_lists_are_new_ones_each_time(self):
        for page in NAMED:
            needs = needs_by_chance(page, 3, 40)
            for ask in (pressed, chain_across, chain_down):
                one = ask(page, needs)
                stood = list(one)
                other = ask(page, needs)
                self.assertIsNot(one, other)
                one.append("changed")
                one.reverse()
                self.assertEqual(other, stood)
                other.clear()
                self.assertEqual(ask(page, needs), stood)

    def test_places_are_new_lists_each_time(self):
        for page in NAMED:
            needs = needs_by_chance(page, 3, 40)
            one = least_places(page, needs)
            self.assertIs(type(one), tuple)
            self.assertEqual([type(part) for part in one], [list] * 2)
            self.assertEqual({type(place) for part in one for place in part}, {int})
            stood = copy.deepcopy(one)
            other = least_places(page, needs)
            self.assertEqual(len({id(part) for part in one + other}), 4)
            one[0].clear()
            one[1].append(7)
            self.assertEqual(other, stood)
            self.assertEqual(least_places(page, needs), stood)

    def test_alike_places_across_and_down_are_two_lists(self):
        upright, level = least_places(CROSS, [(1, 1)] * 4)
        self.assertEqual(upright, level)
        self.assertIsNot(upright, level)


if __name__ == "__main__":
    unittest.main()
