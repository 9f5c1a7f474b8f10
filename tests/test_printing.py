import copy
import unittest

from pagepart.errors import NoPlace, NoRoom, NoTexts, NoTree
from pagepart.lines import lines
from pagepart.printing import printed, words_in
from pagepart.setting import setting
from pagepart.stairs import least_high, tree_stairs
from pagepart.trees import boxes_of, read_tree

from samples import (
    SIDE, WORD_SIGNS, OwnThing, all_trees, back_deep_tree, broad_tree, deep_tree, full_texts, full_trees, no_lists,
    no_trees, no_words, short_texts, tree_by_chance, words_by_chance,
)

BOTH = read_tree("(|0 (-2 1))")
BOTH_TEXTS = [["a", "b", "c"], ["dd"], ["e", "f"]]

NO_WIDTHS = (401, 402, 500, 50000, 50001, 2 ** 64, 10 ** 300, 0, -1, -2, -400, -50000, -(10 ** 300))


def set_low(tree, texts, wide):
    return setting(tree, texts, wide, least_high(tree, texts, wide))


def painted(tree, texts, wide):
    """The printed page, told place by place."""
    signs = {}
    for (left, top, right, below), words in zip(set_low(tree, texts, wide), texts):
        for down, line in enumerate(lines(words, right - left)):
            for across, sign in enumerate(line):
                signs[(left + across, top + down)] = sign
    high = least_high(tree, texts, wide)
    rows = ["".join(signs.get((x, y), " ") for x in range(wide)) for y in range(high)]
    assert all(x < wide and y < high for x, y in signs)
    return rows


def read_by_places(rows, box):
    """The words of a box, told sign by sign."""
    left, top, right, below = box
    found = []
    for y in range(top, below):
        within = False
        for x in range(left, right):
            sign = rows[y][x]
            if sign == " ":
                within = False
            elif within:
                found[-1] += sign
            else:
                found.append(sign)
                within = True
    return found


class Printed(unittest.TestCase):
    def told(self, tree, texts, wide, rows):
        self.assertEqual(printed(tree, texts, wide), rows)

    def test_one_box(self):
        texts = [["the", "quick", "brown", "fox"]]
        self.told(0, texts, 5, ["the  ", "quick", "brown", "fox  "])
        self.told(0, texts, 8, ["the     ", "quick   ", "brown   ", "fox     "])
        self.told(0, texts, 9, ["the quick", "brown fox"])
        self.told(0, texts, 19, ["the quick brown fox"])
        self.told(0, texts, 21, ["the quick brown fox  "])

    def test_no_words(self):
        self.told(0, [[]], 1, [" "])
        self.told(0, [[]], 3, ["   "])
        self.told(0, [[]], 400, [" " * 400])
        for many in range(2, 25):
            texts = [[] for number in range(many)]
            self.told(broad_tree("|", many), texts, many + 2, [" " * (many + 2)])
            self.told(broad_tree("-", many), texts, 2, ["  "] * many)
        self.told(deep_tree(24), [[]] * 24, 12, [" " * 12] * 13)

    def test_side_by_side(self):
        texts = [["ab", "cde"], ["fgh"]]
        self.told(("|", (0, 1)), texts, 6, ["ab fgh", "cde   "])
        self.told(("|", (0, 1)), texts, 7, ["ab fgh ", "cde    "])
        self.told(("|", (0, 1)), texts, 9, ["ab cdefgh"])
        self.told(("|", (1, 0)), texts, 6, ["fghab ", "   cde"])

    def test_one_beneath_the_other(self):
        texts = [["ab", "cde"], ["fgh"]]
        self.told(("-", (0, 1)), texts, 3, ["ab ", "cde", "fgh"])
        self.told(("-", (0, 1)), texts, 6, ["ab cde", "fgh   "])
        self.told(("-", (1, 0)), texts, 6, ["fgh   ", "ab cde"])

    def test_both_kinds(self):
        self.told(BOTH, BOTH_TEXTS, 3, ["ae ", "bf ", "cdd"])
        self.told(BOTH, BOTH_TEXTS, 5, ["ae f ", "bdd  ", "c    "])
        self.told(BOTH, BOTH_TEXTS, 6, ["a be f", "c  dd "])
        self.told(read_tree("(-(|0 1) 2)"), BOTH_TEXTS, 7, ["a b cdd", "e f    "])

    def test_lines_begin_above_in_a_box_with_more_room(self):
        texts = [["a", "b", "c"], ["d"], []]
        self.told(("|", (0, 1, 2)), texts, 3, ["ad ", "b  ", "c  "])
        self.told(("|", (1, 2, 0)), texts, 3, ["d a", "  b", "  c"])

    def test_boxes_without_words_among_others(self):
        self.told(("|", (0, 1)), [["ab", "cd"], []], 3, ["ab ", "cd "])
        self.told(("-", (0, 1)), [[], ["ab", "cd"]], 2, ["  ", "ab", "cd"])
        self.told(("-", (0, 1, 2)), [["ab"], [], ["cd"]], 2, ["ab", "  ", "cd"])

    def test_a_width_of_one(self):
        self.told(0, [["a", "b", "c"]], 1, ["a", "b", "c"])
        self.told(broad_tree("-", 24), [[sign] for sign in WORD_SIGNS[:24]], 1, list(WORD_SIGNS[:24]))
        self.told(0, [["a"] * 40], 1, ["a"] * 40)

    def test_a_width_of_four_hundred(self):
        words = ["abcdefghijkl"] * 40
        self.told(0, [words], 400, [" ".join(words[:30]).ljust(400), " ".join(words[30:]).ljust(400)])
        for seed, tree in enumerate(full_trees()):
            self.told(tree, full_texts(seed), 400, painted(tree, full_texts(seed), 400))

    def test_all_signs(self):
        for sign in WORD_SIGNS:
            self.told(("|", (1, 0)), [[sign], [sign * 2, sign]], 5, [sign * 2 + " " + sign + sign])

    def test_place_by_place(self):
        for seed in range(72):
            many = 1 + seed % 24
            tree = tree_by_chance(seed, many)
            texts = [words_by_chance(seed * 50 + number, (seed * number) % 11, 1, 6) for number in range(many)]
            first = tree_stairs(tree, texts)[0][0]
            for wide in (first, first + 1, first + 5, 399, 400):
                rows = painted(tree, texts, wide)
                self.told(tree, texts, wide, rows)
                self.assertEqual(len(rows), least_high(tree, texts, wide))
                self.assertEqual({len(row) for row in rows}, {wide})

    def test_24_boxes_with_40_words_each(self):
        for seed, tree in enumerate(full_trees()):
            texts = full_texts(seed)
            wide = tree_stairs(tree, texts)[0][0]
            self.told(tree, texts, wide, painted(tree, texts, wide))

    def test_kinds(self):
        told = printed(BOTH, BOTH_TEXTS, 6)
        self.assertIs(type(told), list)
        self.assertEqual([type(row) for row in told], [str, str])

    def test_by_name(self):
        self.assertEqual(printed(tree=0, texts=[["abc"]], wide=4), ["abc "])


class NoRoomToPrint(unittest.TestCase):
    def refused(self, tree, texts, wide):
        with self.assertRaises(NoRoom, msg=(tree, texts, wide)) as caught:
            printed(tree, texts, wide)
        self.assertIs(type(caught.exception), NoRoom)

    def test_widths_that_are_not_from_1_to_400(self):
        for tree in (0, BOTH, deep_tree(24), broad_tree("|", 24), broad_tree("-", 24)):
            for texts in ([[]] * boxes_of(tree), [["ab"]] * boxes_of(tree)):
                self.assertEqual(len(printed(tree, texts, 400)[0]), 400)
                for wide in NO_WIDTHS:
                    self.refused(tree, texts, wide)

    def test_where_there_is_no_height(self):
        self.refused(0, [["ab"]], 1)
        self.refused(("|", (0, 1)), [[], []], 1)
        for seed in range(24):
            tree = tree_by_chance(seed, 1 + seed)
            texts = [words_by_chance(seed * 50 + number, 4) for number in range(1 + seed)]
            first = tree_stairs(tree, texts)[0][0]
            self.assertLessEqual(first, 400)
            self.refused(tree, texts, first - 1)
            self.refused(tree, texts, 1)

    def test_one_less_than_the_widest_words_need(self):
        texts = [["abcdefghijkl", "m"]] * 24
        self.refused(broad_tree("|", 24), texts, 24 * 12 - 1)
        self.assertEqual(len(printed(broad_tree("|", 24), texts, 24 * 12)), 2)


class NoTreeAndNoTexts(unittest.TestCase):
    def refused(self, refusal, tree, texts):
        for wide in (50, 1, 400, 401, 0, -1, 50000):
            with self.assertRaises(refusal, msg=(tree, texts, wide)) as caught:
                printed(tree, texts, wide)
            self.assertIs(type(caught.exception), refusal)

    def test_no_tree(self):
        for thing in no_trees():
            self.refused(NoTree, thing, [["ab"]])

    def test_no_tree_ahead_of_no_texts(self):
        for thing in no_trees():
            for texts in (None, [], [7], ["ab"], [["a b"]], [["ab"] * 41], (["ab"],), OwnThing()):
                self.refused(NoTree, thing, texts)

    def test_no_list_of_texts(self):
        for thing in no_lists():
            self.refused(NoTexts, 0, thing)
            self.refused(NoTexts, BOTH, thing)

    def test_too_few_and_too_many(self):
        for tree in (0, ("|", (0, 1)), BOTH, deep_tree(24)):
            for many in (0, 1, 2, 23, 25, 2000):
                if many != boxes_of(tree):
                    self.refused(NoTexts, tree, [["ab"]] * many)

    def test_no_texts_within(self):
        for thing in no_lists() + [[word] for word in no_words()] + [["a"] * 41]:
            self.refused(NoTexts, 0, [thing])
            self.refused(NoTexts, BOTH, [["ab"], [], thing])


class WordsIn(unittest.TestCase):
    def told(self, rows, boxes, words):
        self.assertEqual(words_in(rows, boxes), words)

    def test_one_box(self):
        self.told(["the quick", "brown fox"], [(0, 0, 9, 2)], [["the", "quick", "brown", "fox"]])
        self.told(["a"], [(0, 0, 1, 1)], [["a"]])
        self.told([" "], [(0, 0, 1, 1)], [[]])

    def test_no_boxes(self):
        self.told(["ab", "cd"], [], [])
        self.told([], [], [])
        self.told(["", ""], [], [])

    def test_rows_ends_part_words(self):
        self.told(["ab", "cd"], [(0, 0, 2, 2)], [["ab", "cd"]])
        self.told(["abcd", "efgh"], [(1, 0, 3, 2)], [["bc", "fg"]])
        self.told([" ab", "cd "], [(0, 0, 3, 2)], [["ab", "cd"]])

    def test_many_blanks_part_words(self):
        self.told(["  ab   c ", "         ", "d       e"], [(0, 0, 9, 3)], [["ab", "c", "d", "e"]])

    def test_neighbours_with_no_blank_between_them(self):
        self.told(["ae ", "bf ", "cdd"], [(0, 0, 1, 3), (1, 2, 3, 3), (1, 0, 3, 2)], BOTH_TEXTS)
        self.told(["ab cdefgh"], [(0, 0, 6, 1), (6, 0, 9, 1)], [["ab", "cde"], ["fgh"]])
        self.told(["fghab ", "   cde"], [(3, 0, 6, 2), (0, 0, 3, 2)], [["ab", "cde"], ["fgh"]])
        self.told(["abc"], [(k, 0, k + 1, 1) for k in range(3)], [["a"], ["b"], ["c"]])

    def test_boxes_without_words(self):
        self.told(["ab ", "cd "], [(0, 0, 2, 2), (2, 0, 3, 2)], [["ab", "cd"], []])
        self.told(["   ", "   "], [(0, 0, 3, 1), (0, 1, 3, 2), (1, 0, 2, 2)], [[], [], []])

    def test_boxes_in_any_order_that_leave_places_out_or_share_them(self):
        rows = ["abc", "def", "ghi"]
        self.told(rows, [(1, 1, 2, 2), (0, 0, 1, 1)], [["e"], ["a"]])
        self.told(rows, [(0, 0, 2, 2), (1, 1, 3, 3), (0, 0, 2, 2)], [["ab", "de"], ["ef", "hi"], ["ab", "de"]])

    def test_all_signs(self):
        for sign in WORD_SIGNS:
            self.told(["a" + sign + " "], [(0, 0, 3, 1)], [["a" + sign]])

    def test_place_by_place(self):
        rows = ["the quick br", "own fox     ", " jumps  over", "it          ", "a b c d e f "]
        boxes = [
            (left, top, right, below)
            for left in range(12) for right in range(left + 1, 13)
            for top in range(5) for below in range(top + 1, 6)
        ]
        self.told(rows, boxes, [read_by_places(rows, box) for box in boxes])

    def test_long_lists(self):
        rows = ["ab " * 1333] * 2000
        self.told(rows, [(0, 0, 3999, 2000)], [["ab"] * 1333 * 2000])
        self.told(rows, [(k, 0, k + 2, 1) for k in range(0, 3000, 3)], [["ab"]] * 1000)

    def test_kinds(self):
        told = words_in(["ab c"], [(0, 0, 4, 1), (2, 0, 3, 1)])
        self.assertIs(type(told), list)
        self.assertEqual([type(words) for words in told], [list, list])
        self.assertEqual([type(word) for word in told[0]], [str, str])

    def test_by_name(self):
        self.assertEqual(words_in(rows=["ab"], boxes=[(0, 0, 2, 1)]), [["ab"]])


class ReadBack(unittest.TestCase):
    def read_back(self, tree, texts, wide):
        self.assertEqual(words_in(printed(tree, texts, wide), set_low(tree, texts, wide)), texts)

    def test_small_trees(self):
        for many in (1, 2, 3):
            for seed, tree in enumerate(all_trees(many)):
                texts = short_texts(seed, many)
                first = tree_stairs(tree, texts)[0][0]
                for wide in range(first, first + 9):
                    self.read_back(tree, texts, wide)

    def test_trees_of_up_to_24_boxes(self):
        for seed in range(48):
            many = 1 + seed % 24
            tree = tree_by_chance(seed, many)
            texts = [words_by_chance(seed * 50 + number, (seed * number) % 41) for number in range(many)]
            first = tree_stairs(tree, texts)[0][0]
            for wide in (first, first + 3, 400):
                if wide <= 400:
                    self.read_back(tree, texts, wide)

    def test_24_boxes_with_40_words_each(self):
        for seed, tree in enumerate(full_trees()):
            texts = full_texts(seed)
            self.read_back(tree, texts, tree_stairs(tree, texts)[0][0])
            self.read_back(tree, texts, 400)


class NoPlaces(unittest.TestCase):
    ROWS = ["abc", "def"]

    def refused(self, rows, boxes):
        with self.assertRaises(NoPlace, msg=(rows, boxes)) as caught:
            words_in(rows, boxes)
        self.assertIs(type(caught.exception), NoPlace)

    def test_one_place_beyond(self):
        self.assertEqual(words_in(self.ROWS, [(0, 0, 3, 2)]), [["abc", "def"]])
        self.refused(self.ROWS, [(0, 0, 4, 2)])
        self.refused(self.ROWS, [(0, 0, 3, 3)])
        self.refused(self.ROWS, [(-1, 0, 3, 2)])
        self.refused(self.ROWS, [(0, -1, 3, 2)])

    def test_wholly_beyond(self):
        self.refused(self.ROWS, [(3, 0, 4, 1)])
        self.refused(self.ROWS, [(0, 2, 1, 3)])
        self.refused(self.ROWS, [(-1, 0, 0, 1)])
        self.refused(self.ROWS, [(0, -1, 1, 0)])
        self.refused(self.ROWS, [(-3, -2, -1, -1)])
        self.refused(self.ROWS, [(-2, 0, -1, 2)])
        self.refused(self.ROWS, [(0, -2, 3, -1)])

    def test_far_beyond(self):
        for far in (50000, 50001, 2 ** 64, 10 ** 300):
            self.refused(self.ROWS, [(0, 0, far, 1)])
            self.refused(self.ROWS, [(0, 0, 1, far)])
            self.refused(self.ROWS, [(-far, 0, 1, 1)])
            self.refused(self.ROWS, [(0, -far, 1, 1)])
            self.refused(self.ROWS, [(far, far, far + 1, far + 1)])

    def test_wherever_it_stands_among_boxes(self):
        for number in range(3):
            for bad in ((0, 0, 4, 1), (0, 0, 1, 3), (-1, 0, 1, 1), (0, -1, 1, 1)):
                boxes = [(0, 0, 1, 1), (1, 0, 3, 1), (0, 1, 3, 2)]
                boxes[number] = bad
                self.refused(self.ROWS, boxes)

    def test_no_texts_and_texts_without_signs(self):
        self.refused([], [(0, 0, 1, 1)])
        self.refused([""], [(0, 0, 1, 1)])
        self.refused(["", ""], [(0, 0, 1, 2)])

    def test_texts_of_unlike_lengths_have_the_places_of_their_own_signs(self):
        rows = ["a", "bcd", "ef"]
        self.assertEqual(words_in(rows, [(0, 1, 3, 2), (0, 1, 2, 3), (0, 0, 1, 3)]), [["bcd"], ["bc", "ef"], ["a", "b", "e"]])
        self.refused(rows, [(0, 0, 2, 2)])
        self.refused(rows, [(0, 1, 3, 3)])

    def test_a_setting_one_wider_or_higher_than_what_is_printed(self):
        rows = printed(BOTH, BOTH_TEXTS, 6)
        self.refused(rows, setting(BOTH, BOTH_TEXTS, 7, 2))
        self.refused(rows, setting(BOTH, BOTH_TEXTS, 6, 3))
        self.assertEqual(words_in(rows, setting(BOTH, BOTH_TEXTS, 6, 2)), BOTH_TEXTS)


class WhatIsHandedInAndTold(unittest.TestCase):
    def test_texts_stay_as_they_were(self):
        for tree in (0, BOTH, deep_tree(24), back_deep_tree(24)):
            texts = full_texts(3, boxes_of(tree))
            stood = copy.deepcopy(texts)
            printed(tree, texts, 400)
            self.assertEqual(texts, stood)
            for wide in (1, 401):
                with self.assertRaises(NoRoom):
                    printed(tree, texts, wide)
                self.assertEqual(texts, stood)

    def test_rows_and_boxes_stay_as_they_were(self):
        rows = printed(BOTH, BOTH_TEXTS, 6)
        boxes = setting(BOTH, BOTH_TEXTS, 6, 2)
        stood = (list(rows), list(boxes))
        words_in(rows, boxes)
        self.assertEqual((rows, boxes), stood)
        boxes.append((0, 0, SIDE, SIDE))
        with self.assertRaises(NoPlace):
            words_in(rows, boxes)
        self.assertEqual((rows, boxes[:-1]), stood)
        self.assertEqual(boxes[-1], (0, 0, SIDE, SIDE))

    def test_what_was_handed_in_may_be_changed_behind(self):
        texts = copy.deepcopy(BOTH_TEXTS)
        rows = printed(BOTH, texts, 6)
        texts[0].append("abcdefghijkl")
        texts[1] = 7
        self.assertEqual(rows, ["a be f", "c  dd "])
        boxes = [(0, 0, 3, 2)]
        words = words_in(rows, boxes)
        rows.clear()
        boxes.clear()
        self.assertEqual(words, [["a", "b", "c"]])

    def test_lists_are_new_ones_each_time(self):
        for tree in (0, BOTH, broad_tree("-", 24)):
            texts = [["ab", "c"] for number in range(boxes_of(tree))]
            one = printed(tree, texts, 20)
            stood = list(one)
            other = printed(tree, texts, 20)
            self.assertIsNot(one, other)
            one.append("changed")
            one.reverse()
            self.assertEqual(other, stood)
            other.clear()
            self.assertEqual(printed(tree, texts, 20), stood)

    def test_each_list_of_words_is_one_of_its_own(self):
        rows = ["ab ", "cd "]
        boxes = [(0, 0, 2, 2), (2, 0, 3, 2), (0, 0, 2, 2), (2, 0, 3, 2)]
        one = words_in(rows, boxes)
        other = words_in(rows, boxes)
        lists = [one, other, *one, *other]
        self.assertEqual(len({id(words) for words in lists}), 10)
        for words in one:
            words.append("changed")
        one.clear()
        self.assertEqual(other, [["ab", "cd"], [], ["ab", "cd"], []])
        self.assertEqual(words_in(rows, boxes), other)


if __name__ == "__main__":
    unittest.main()
