import copy
import unittest

from pagepart.cutting import tree_of
from pagepart.errors import NoRoom, NoTexts, NoTree
from pagepart.lines import lines
from pagepart.pages import make_page
from pagepart.setting import setting
from pagepart.stairs import least_high, tree_stairs
from pagepart.trees import boxes_of, read_tree

from samples import (
    SIDE, OwnThing, all_trees, back_deep_tree, broad_tree, deep_tree, full_texts, full_trees, no_lists, no_trees, no_words,
    short_texts, tree_by_chance, words_by_chance,
)
from ways import set_by_all_ways, set_by_sums

BOTH = read_tree("(|0 (-2 1))")
BOTH_TEXTS = [["a", "b", "c"], ["dd"], ["e", "f"]]

NOUGHT_AND_BELOW = (0, -1, -2, -50000, -(10 ** 300))


def in_order(boxes):
    return [boxes[number] for number in sorted(boxes)]


class Setting(unittest.TestCase):
    def told(self, tree, texts, wide, high, boxes):
        self.assertEqual(setting(tree, texts, wide, high), boxes)

    def test_one_box(self):
        self.told(0, [[]], 1, 1, [(0, 0, 1, 1)])
        self.told(0, [[]], 7, 5, [(0, 0, 7, 5)])
        self.told(0, [["ab"] * 5], 2, 5, [(0, 0, 2, 5)])
        self.told(0, [["ab"] * 5], 5, 3, [(0, 0, 5, 3)])
        self.told(0, [["ab"] * 5], 7, 9, [(0, 0, 7, 9)])
        self.told(0, [["ab"] * 5], SIDE, SIDE, [(0, 0, SIDE, SIDE)])

    def test_side_by_side(self):
        tree = ("|", (0, 1))
        texts = [["ab", "cde"], ["fgh"]]
        self.told(tree, texts, 6, 2, [(0, 0, 3, 2), (3, 0, 6, 2)])
        self.told(tree, texts, 9, 1, [(0, 0, 6, 1), (6, 0, 9, 1)])
        # In a height of 2 the first one is narrow, and all that is left goes to the last one.
        self.told(tree, texts, 9, 2, [(0, 0, 3, 2), (3, 0, 9, 2)])
        self.told(tree, texts, 9, 7, [(0, 0, 3, 7), (3, 0, 9, 7)])
        self.told(tree, texts, SIDE, 1, [(0, 0, 6, 1), (6, 0, SIDE, 1)])

    def test_one_beneath_the_other(self):
        tree = ("-", (0, 1))
        texts = [["ab", "cde"], ["fgh"]]
        self.told(tree, texts, 3, 3, [(0, 0, 3, 2), (0, 2, 3, 3)])
        self.told(tree, texts, 6, 2, [(0, 0, 6, 1), (0, 1, 6, 2)])
        self.told(tree, texts, 6, 5, [(0, 0, 6, 1), (0, 1, 6, 5)])
        self.told(tree, texts, 5, 5, [(0, 0, 5, 2), (0, 2, 5, 5)])
        self.told(tree, texts, 6, SIDE, [(0, 0, 6, 1), (0, 1, 6, SIDE)])

    def test_by_number_and_not_in_the_order_of_parts(self):
        texts = [["a"], ["bb"], ["ccc"]]
        self.told(("|", (2, 0, 1)), texts, 6, 1, [(3, 0, 4, 1), (4, 0, 6, 1), (0, 0, 3, 1)])
        self.told(("|", (1, 2, 0)), texts, 9, 2, [(5, 0, 9, 2), (0, 0, 2, 2), (2, 0, 5, 2)])
        self.told(("-", (2, 0, 1)), texts, 3, 3, [(0, 1, 3, 2), (0, 2, 3, 3), (0, 0, 3, 1)])
        self.told(("-", (1, 2, 0)), texts, 4, 6, [(0, 2, 4, 6), (0, 0, 4, 1), (0, 1, 4, 2)])

    def test_both_kinds(self):
        self.told(BOTH, BOTH_TEXTS, 3, 3, [(0, 0, 1, 3), (1, 2, 3, 3), (1, 0, 3, 2)])
        self.told(BOTH, BOTH_TEXTS, 6, 2, [(0, 0, 3, 2), (3, 1, 6, 2), (3, 0, 6, 1)])
        self.told(BOTH, BOTH_TEXTS, 6, 3, [(0, 0, 1, 3), (1, 1, 6, 3), (1, 0, 6, 1)])
        self.told(BOTH, BOTH_TEXTS, 5, 8, [(0, 0, 1, 8), (1, 1, 5, 8), (1, 0, 5, 1)])
        tree = read_tree("(-(|0 1) 2)")
        self.told(tree, BOTH_TEXTS, 8, 2, [(0, 0, 5, 1), (5, 0, 8, 1), (0, 1, 8, 2)])
        self.told(tree, BOTH_TEXTS, 6, 9, [(0, 0, 3, 2), (3, 0, 6, 2), (0, 2, 6, 9)])

    def test_what_is_left_goes_down_to_the_last_ones_alone(self):
        tree = read_tree("(|0 (-1 (|2 3)))")
        texts = [["aa"], ["b"], ["cc"], ["d"]]
        self.told(tree, texts, 5, 2, [(0, 0, 2, 2), (2, 0, 5, 1), (2, 1, 4, 2), (4, 1, 5, 2)])
        self.told(tree, texts, 15, 12, [(0, 0, 2, 12), (2, 0, 15, 1), (2, 1, 4, 12), (4, 1, 15, 12)])
        tree = read_tree("(|(-(|3 2) 1) 0)")
        self.told(tree, texts, 15, 12, [(3, 0, 15, 12), (0, 1, 3, 12), (1, 0, 3, 1), (0, 0, 1, 1)])

    def test_boxes_without_words(self):
        for many in range(2, 25):
            texts = [[] for number in range(many)]
            across = [(number, 0, number + 1, 1) for number in range(many)]
            self.told(broad_tree("|", many), texts, many, 1, across)
            self.told(broad_tree("|", many), texts, many + 5, 1, across[:-1] + [(many - 1, 0, many + 5, 1)])
            down = [(0, number, 1, number + 1) for number in range(many)]
            self.told(broad_tree("-", many), texts, 1, many, down)
            self.told(broad_tree("-", many), texts, 1, many + 5, down[:-1] + [(0, many - 1, 1, many + 5)])
        self.told(("|", (0, 1)), [["ab", "cd"], []], 3, 2, [(0, 0, 2, 2), (2, 0, 3, 2)])
        self.told(("|", (0, 1)), [[], ["ab", "cd"]], 3, 2, [(0, 0, 1, 2), (1, 0, 3, 2)])
        self.told(deep_tree(24), [[]] * 24, 12, 13, in_order(set_by_sums(deep_tree(24), [[]] * 24, 12, 13)))

    def test_by_all_ways_for_small_trees(self):
        for many in (1, 2, 3):
            for seed, tree in enumerate(all_trees(many)):
                for again in range(3):
                    self.by_all_ways(tree, short_texts(seed * 7 + again, many))

    def test_by_all_ways_for_trees_of_four_and_five(self):
        for many, step in ((4, 11), (5, 211)):
            for seed, tree in enumerate(all_trees(many)[::step]):
                self.by_all_ways(tree, short_texts(seed, many))

    def by_all_ways(self, tree, texts):
        first = tree_stairs(tree, texts)[0][0]
        for wide in range(first, min(first + 6, 14)):
            least = least_high(tree, texts, wide)
            for high in range(least, least + 3):
                self.told(tree, texts, wide, high, in_order(set_by_all_ways(tree, texts, wide, high)))

    def test_by_sums_for_trees_of_up_to_24_boxes(self):
        for seed in range(48):
            many = 1 + seed % 24
            tree = tree_by_chance(seed, many)
            texts = [words_by_chance(seed * 50 + number, (seed * number) % 11) for number in range(many)]
            stairs = tree_stairs(tree, texts)
            for wide, high in (stairs[0], stairs[len(stairs) // 2], stairs[-1]):
                self.by_sums(tree, texts, wide, high)

    def by_sums(self, tree, texts, wide, high):
        for over_wide, over_high in ((0, 0), (0, 1), (1, 0), (3, 2), (900, 0), (0, 700)):
            size = (wide + over_wide, high + over_high)
            self.told(tree, texts, *size, in_order(set_by_sums(tree, texts, *size)))

    def test_24_boxes_with_40_words_each(self):
        for seed, tree in enumerate(full_trees()):
            texts = full_texts(seed)
            stairs = tree_stairs(tree, texts)
            for wide, high in (stairs[0], stairs[len(stairs) // 3]):
                boxes = in_order(set_by_sums(tree, texts, wide, high))
                self.assertEqual(len(boxes), 24)
                self.told(tree, texts, wide, high, boxes)
            self.told(tree, texts, SIDE, SIDE, in_order(set_by_sums(tree, texts, SIDE, SIDE)))

    def test_the_boxes_are_a_page_and_hold_their_texts(self):
        for seed, tree in enumerate(full_trees()):
            texts = full_texts(seed)
            stairs = tree_stairs(tree, texts)
            for wide, high in stairs[::50] + [(SIDE, stairs[-1][1]), (stairs[0][0], SIDE), (SIDE, SIDE)]:
                boxes = setting(tree, texts, wide, high)
                page = make_page(wide, high, boxes)
                self.assertNotEqual(tree_of(page), "stuck")
                for (left, top, right, below), words in zip(boxes, texts):
                    self.assertLessEqual(len(lines(words, right - left)), below - top)

    def test_kinds(self):
        for told in (setting(0, [[]], 3, 4), setting(BOTH, BOTH_TEXTS, 6, 6)):
            self.assertIs(type(told), list)
            for box in told:
                self.assertIs(type(box), tuple)
                self.assertEqual([type(part) for part in box], [int] * 4)

    def test_by_name(self):
        self.assertEqual(setting(tree=0, texts=[["abc"]], wide=3, high=2), [(0, 0, 3, 2)])


class NoRoomForThem(unittest.TestCase):
    def refused(self, tree, texts, wide, high):
        with self.assertRaises(NoRoom, msg=(tree, texts, wide, high)) as caught:
            setting(tree, texts, wide, high)
        self.assertIs(type(caught.exception), NoRoom)

    def test_one_less_than_the_least_height(self):
        for seed in range(24):
            tree = tree_by_chance(seed, 1 + seed)
            texts = [words_by_chance(seed * 50 + number, (seed * number) % 9) for number in range(1 + seed)]
            for wide, high in tree_stairs(tree, texts):
                for over in (0, 1):
                    least = least_high(tree, texts, wide + over)
                    self.refused(tree, texts, wide + over, least - 1)
                    self.assertEqual(len(setting(tree, texts, wide + over, least)), 1 + seed)
                    self.assertEqual(len(setting(tree, texts, wide + over, least + 1)), 1 + seed)

    def test_a_width_in_which_there_is_none(self):
        for seed, tree in enumerate(full_trees()[::3]):
            texts = full_texts(seed)
            wide = tree_stairs(tree, texts)[0][0] - 1
            for high in (1, 960, SIDE, 10 ** 300, 0, -1):
                self.refused(tree, texts, wide, high)
        self.refused(0, [["ab"]], 1, 1)
        self.refused(0, [["ab"]], 1, SIDE)
        self.refused(("|", (0, 1)), [[], []], 1, SIDE)

    def test_nought_and_below(self):
        for tree in (0, BOTH, deep_tree(24), broad_tree("|", 24), broad_tree("-", 24)):
            for texts in ([[]] * boxes_of(tree), [["ab"]] * boxes_of(tree)):
                for number in NOUGHT_AND_BELOW:
                    self.refused(tree, texts, number, SIDE)
                    self.refused(tree, texts, SIDE, number)
                    self.refused(tree, texts, number, number)


class NoTreeAndNoTexts(unittest.TestCase):
    SIZES = ((SIDE, SIDE), (3, 1), (0, 0), (-1, -1), (SIDE, 0), (0, SIDE))

    def refused(self, refusal, tree, texts):
        for wide, high in self.SIZES:
            with self.assertRaises(refusal, msg=(tree, texts)) as caught:
                setting(tree, texts, wide, high)
            self.assertIs(type(caught.exception), refusal)

    def test_no_tree(self):
        for thing in no_trees():
            self.refused(NoTree, thing, [["ab"]])
            self.refused(NoTree, thing, [["ab"], ["cd"]])

    def test_no_tree_ahead_of_no_texts(self):
        for thing in no_trees():
            for texts in (None, [], [7], ["ab"], [["a b"]], [["ab"] * 41], (["ab"],), OwnThing()):
                self.refused(NoTree, thing, texts)

    def test_no_list_of_texts(self):
        for thing in no_lists():
            self.refused(NoTexts, 0, thing)
            self.refused(NoTexts, BOTH, thing)

    def test_too_few_and_too_many(self):
        for tree in (0, ("|", (0, 1)), BOTH, deep_tree(24)):
            for many in (0, 1, 2, 23, 25, 2000):
                if many != boxes_of(tree):
                    self.refused(NoTexts, tree, [["ab"]] * many)

    def test_no_texts_within(self):
        for thing in no_lists() + [[word] for word in no_words()] + [["a"] * 41]:
            self.refused(NoTexts, 0, [thing])
            for number in range(3):
                texts = [["ab"], [], ["cd", "ef"]]
                texts[number] = thing
                self.refused(NoTexts, BOTH, texts)

    def test_forty_words(self):
        self.assertEqual(setting(0, [["a"] * 40], 79, 1), [(0, 0, 79, 1)])
        self.assertEqual(setting(0, [["a"] * 40], 1, 40), [(0, 0, 1, 40)])


class WhatIsHandedInAndTold(unittest.TestCase):
    def test_texts_stay_as_they_were(self):
        for tree in (0, BOTH, deep_tree(24), back_deep_tree(24)):
            texts = full_texts(3, boxes_of(tree))
            stood = copy.deepcopy(texts)
            setting(tree, texts, SIDE, SIDE)
            self.assertEqual(texts, stood)
            with self.assertRaises(NoRoom):
                setting(tree, texts, 1, 1)
            self.assertEqual(texts, stood)

    def test_texts_may_be_changed_behind(self):
        texts = copy.deepcopy(BOTH_TEXTS)
        told = setting(BOTH, texts, 6, 2)
        texts[0].append("abcdefghijkl")
        texts[1] = 7
        self.assertEqual(told, [(0, 0, 3, 2), (3, 1, 6, 2), (3, 0, 6, 1)])
        texts[1] = []
        self.assertEqual(setting(BOTH, texts, 20, 4), in_order(set_by_sums(BOTH, texts, 20, 4)))

    def test_lists_are_new_ones_each_time(self):
        for tree in (0, BOTH, deep_tree(24), broad_tree("|", 24), broad_tree("-", 24)):
            texts = [["ab", "c"] for number in range(boxes_of(tree))]
            one = setting(tree, texts, 200, 100)
            stood = list(one)
            other = setting(tree, texts, 200, 100)
            self.assertIsNot(one, other)
            one.append("changed")
            one.reverse()
            self.assertEqual(other, stood)
            other.clear()
            self.assertEqual(setting(tree, texts, 200, 100), stood)

    def test_one_list_may_be_the_text_of_several_boxes(self):
        words = ["ab", "c", "def"]
        apart = [list(words) for number in range(24)]
        for tree in (deep_tree(24), broad_tree("|", 24), broad_tree("-", 24)):
            self.assertEqual(setting(tree, [words] * 24, 300, 300), setting(tree, apart, 300, 300))
        self.assertEqual(words, ["ab", "c", "def"])


if __name__ == "__main__":
    unittest.main()
