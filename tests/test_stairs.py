import copy
import itertools
import unittest

from pagepart.errors import NoTexts, NoTree
from pagepart.lines import lines, text_stairs
from pagepart.stairs import least_high, least_wide, tree_stairs
from pagepart.trees import boxes_of, read_tree

from samples import (
    OwnThing, all_trees, broad_tree, deep_tree, full_texts, full_trees, no_lists, no_trees, no_words, parts_in, short_texts,
    tree_by_chance, words_by_chance,
)
from ways import ByAllWays, stairs_by_sums

FAR = (49999, 50000, 50001, 2 ** 64, 10 ** 300)
NOUGHT_AND_BELOW = (0, -1, -2, -50000, -(10 ** 300))

BOTH = read_tree("(|0 (-2 1))")


def asks(tree, texts):
    """The three functions, each to be asked about these."""
    return [
        lambda: tree_stairs(tree, texts), lambda: least_high(tree, texts, 50), lambda: least_wide(tree, texts, 50),
        lambda: least_high(tree, texts, 0), lambda: least_wide(tree, texts, 0),
    ]


class Stairs(unittest.TestCase):
    def told(self, tree, texts, stairs):
        self.assertEqual(tree_stairs(tree, texts), stairs)

    def test_one_box(self):
        self.told(0, [[]], [(1, 1)])
        self.told(0, [["abc"]], [(3, 1)])
        self.told(0, [["ab"] * 5], [(2, 5), (5, 3), (8, 2), (14, 1)])
        for seed in range(20):
            words = words_by_chance(seed, 2 * seed + 2)
            self.told(0, [words], text_stairs(words))

    def test_side_by_side(self):
        self.told(("|", (0, 1)), [["ab", "cde"], ["fgh"]], [(6, 2), (9, 1)])
        self.told(("|", (0, 1)), [["ab", "cde"], ["f", "g"]], [(4, 2), (9, 1)])
        self.told(("|", (0, 1, 2)), [["ab"], ["c"], ["defg"]], [(7, 1)])
        self.told(("|", (0, 1)), [["a"] * 4, ["a", "a"]], [(2, 4), (4, 2), (10, 1)])

    def test_one_beneath_the_other(self):
        self.told(("-", (0, 1)), [["ab", "cde"], ["fgh"]], [(3, 3), (6, 2)])
        self.told(("-", (0, 1)), [["ab", "cde"], ["f", "g"]], [(3, 3), (6, 2)])
        self.told(("-", (0, 1, 2)), [["ab"], ["c"], ["defg"]], [(4, 3)])
        self.told(("-", (0, 1)), [["a"] * 4, ["a", "a"]], [(1, 6), (3, 3), (7, 2)])

    def test_both_kinds(self):
        # Box 2 lies above box 1, box 0 to the left of both.
        texts = [["a", "b", "c"], ["dd"], ["e", "f"]]
        self.told(BOTH, texts, [(3, 3), (6, 2)])
        # Box 0 lies above both, which are side by side.
        self.told(("-", (0, ("|", (1, 2)))), texts, [(3, 4), (5, 2)])

    def test_boxes_are_taken_by_number(self):
        texts = [["a"], ["bbbb"], ["c"] * 3]
        self.told(("|", (("-", (0, 1)), 2)), texts, stairs_by_sums(("|", (("-", (0, 1)), 2)), texts))
        self.told(("|", (2, ("-", (1, 0)))), texts, tree_stairs(("|", (("-", (0, 1)), 2)), texts))
        self.assertNotEqual(tree_stairs(("|", (("-", (0, 2)), 1)), texts), tree_stairs(("|", (("-", (0, 1)), 2)), texts))

    def test_boxes_without_words(self):
        for many in range(2, 25):
            self.told(broad_tree("|", many), [[]] * many, [(many, 1)])
            self.told(broad_tree("-", many), [[]] * many, [(1, many)])
        self.told(BOTH, [[], [], []], [(2, 2)])
        self.told(deep_tree(24), [[] for number in range(24)], [(12, 13)])
        self.told(("|", (0, 1)), [["ab", "cd"], []], [(3, 2), (6, 1)])
        self.told(("-", (0, 1)), [[], ["ab", "cd"]], [(2, 3), (5, 2)])

    def test_many_parts(self):
        self.told(broad_tree("|", 24), [["ab", "ab"]] * 24, [(48, 2), (120, 1)])
        self.told(broad_tree("-", 24), [["ab", "ab"]] * 24, [(2, 48), (5, 24)])

    def test_by_all_ways_for_small_trees(self):
        for many in (1, 2, 3):
            for seed, tree in enumerate(all_trees(many)):
                for again in range(3):
                    self.by_all_ways(tree, short_texts(seed * 7 + again, many), 14, 9)

    def test_by_all_ways_for_trees_of_four_and_five(self):
        for many, step in ((4, 11), (5, 211)):
            for seed, tree in enumerate(all_trees(many)[::step]):
                self.by_all_ways(tree, short_texts(seed, many), 13, 8)

    def by_all_ways(self, tree, texts, wide, high):
        ways = ByAllWays(texts)
        stairs = tree_stairs(tree, texts)
        sizes = list(itertools.product(range(wide + 1), range(high + 1)))
        has = {size: ways.has_page(tree, *size) for size in sizes}
        for size in sizes:
            told = any(stair[0] <= size[0] and stair[1] <= size[1] for stair in stairs)
            self.assertEqual(told, has[size], (tree, texts, size))
        for x in range(wide + 1):
            least = min([y for y in range(high + 1) if has[(x, y)]], default=None)
            if least is not None:
                self.assertEqual(least_high(tree, texts, x), least)
            else:
                told = least_high(tree, texts, x)
                self.assertTrue(told is None or told > high, (tree, texts, x, told))
        for y in range(high + 1):
            least = min([x for x in range(wide + 1) if has[(x, y)]], default=None)
            if least is not None:
                self.assertEqual(least_wide(tree, texts, y), least)
            else:
                told = least_wide(tree, texts, y)
                self.assertTrue(told is None or told > wide, (tree, texts, y, told))

    def test_by_sums_for_trees_of_up_to_24_boxes(self):
        for seed in range(60):
            many = 1 + seed % 24
            tree = tree_by_chance(seed, many)
            texts = [words_by_chance(seed * 50 + number, (seed * number) % 41) for number in range(many)]
            self.told(tree, texts, stairs_by_sums(tree, texts))

    def test_24_boxes_with_40_words_each(self):
        for seed, tree in enumerate(full_trees()):
            texts = full_texts(seed)
            self.assertEqual(boxes_of(tree), 24)
            stairs = tree_stairs(tree, texts)
            self.assertEqual(stairs, stairs_by_sums(tree, texts))
            self.assertGreater(len(stairs), 20)

    def test_words_as_long_as_may_be(self):
        texts = [["abcdefghijkl"] * 40] * 24
        line = 40 * 13 - 1
        stairs = tree_stairs(broad_tree("|", 24), texts)
        self.assertEqual((stairs[0], stairs[-1]), ((24 * 12, 40), (24 * line, 1)))
        stairs = tree_stairs(broad_tree("-", 24), texts)
        self.assertEqual((stairs[0], stairs[-1]), ((12, 24 * 40), (line, 24)))
        self.assertEqual(tree_stairs(deep_tree(24), texts), stairs_by_sums(deep_tree(24), texts))

    def test_widths_rise_and_heights_fall(self):
        for seed, tree in enumerate(full_trees()):
            stairs = tree_stairs(tree, full_texts(seed))
            for one, other in zip(stairs, stairs[1:]):
                self.assertLess(one[0], other[0])
                self.assertGreater(one[1], other[1])

    def test_kinds(self):
        for told in (tree_stairs(0, [[]]), tree_stairs(BOTH, short_texts(1, 3)), tree_stairs(0, [["ab"] * 5])):
            self.assertIs(type(told), list)
            for stair in told:
                self.assertIs(type(stair), tuple)
                self.assertEqual([type(part) for part in stair], [int] * 2)

    def test_by_name(self):
        self.assertEqual(tree_stairs(tree=0, texts=[["abc"]]), [(3, 1)])
        self.assertEqual(least_high(tree=0, texts=[["abc"]], wide=3), 1)
        self.assertEqual(least_wide(tree=0, texts=[["abc"]], high=3), 3)


class LeastHeightsAndWidths(unittest.TestCase):
    def test_one_box(self):
        texts = [["ab"] * 5]
        heights = [least_high(0, texts, wide) for wide in range(16)]
        self.assertEqual(heights, [None, None, 5, 5, 5, 3, 3, 3, 2, 2, 2, 2, 2, 2, 1, 1])
        widths = [least_wide(0, texts, high) for high in range(8)]
        self.assertEqual(widths, [None, 14, 8, 5, 5, 2, 2, 2])

    def test_no_words(self):
        self.assertEqual([least_high(0, [[]], wide) for wide in (0, 1, 2)], [None, 1, 1])
        self.assertEqual([least_wide(0, [[]], high) for high in (0, 1, 2)], [None, 1, 1])

    def test_both_kinds(self):
        texts = [["a", "b", "c"], ["dd"], ["e", "f"]]
        self.assertEqual([least_high(BOTH, texts, wide) for wide in range(8)], [None, None, None, 3, 3, 3, 2, 2])
        self.assertEqual([least_wide(BOTH, texts, high) for high in range(6)], [None, None, 6, 3, 3, 3])

    def test_nought_and_below(self):
        for tree in (0, BOTH, deep_tree(24), broad_tree("|", 24), broad_tree("-", 24)):
            for texts in ([[]] * boxes_of(tree), [["ab"]] * boxes_of(tree)):
                for number in NOUGHT_AND_BELOW:
                    self.assertIs(least_high(tree, texts, number), None)
                    self.assertIs(least_wide(tree, texts, number), None)

    def test_far(self):
        for seed, tree in enumerate(full_trees()):
            texts = full_texts(seed)
            stairs = tree_stairs(tree, texts)
            for number in FAR:
                self.assertEqual(least_high(tree, texts, number), stairs[-1][1])
                self.assertEqual(least_wide(tree, texts, number), stairs[0][0])

    def test_none_just_where_there_is_none(self):
        for seed, tree in enumerate(full_trees()[::2]):
            texts = full_texts(seed)
            stairs = tree_stairs(tree, texts)
            self.assertIs(least_high(tree, texts, stairs[0][0] - 1), None)
            self.assertEqual(least_high(tree, texts, stairs[0][0]), stairs[0][1])
            self.assertIs(least_wide(tree, texts, stairs[-1][1] - 1), None)
            self.assertEqual(least_wide(tree, texts, stairs[-1][1]), stairs[-1][0])

    def test_at_each_stair_and_one_beside_it(self):
        for seed in range(12):
            tree = tree_by_chance(seed, 2 + seed)
            texts = [words_by_chance(seed * 50 + number, 6) for number in range(2 + seed)]
            stairs = tree_stairs(tree, texts)
            for number, (wide, high) in enumerate(stairs):
                self.assertEqual(least_high(tree, texts, wide), high)
                self.assertEqual(least_wide(tree, texts, high), wide)
                ahead = stairs[number - 1] if number else (None, None)
                behind = stairs[number + 1] if number + 1 < len(stairs) else (None, None)
                self.assertEqual(least_high(tree, texts, wide - 1), ahead[1])
                self.assertEqual(least_wide(tree, texts, high - 1), behind[0])

    def test_a_page_of_that_size_holds_all_texts(self):
        for seed, tree in enumerate(full_trees()):
            texts = full_texts(seed)
            known = {part: stairs_by_sums(part, texts) for part in parts_in(tree)}
            for wide, high in tree_stairs(tree, texts)[::7]:
                boxes = {}
                self.part(tree, known, (0, 0, wide, high), boxes)
                self.assertEqual(sorted(boxes), list(range(24)))
                for number, (left, top, right, below) in boxes.items():
                    self.assertLessEqual(len(lines(texts[number], right - left)), below - top)

    def part(self, tree, known, piece, boxes):
        """Part the piece as the tree tells, each part but the last as narrow (low) as its own stairs let."""
        left, top, right, below = piece
        if not isinstance(tree, tuple):
            boxes[tree] = piece
            return
        kind, parts = tree
        for part in parts:
            last = part == parts[-1]
            if kind == "|":
                wide = min(wide for wide, high in known[part] if high <= below - top)
                end = right if last else left + wide
                self.part(part, known, (left, top, end, below), boxes)
                left = end
            else:
                high = min(high for wide, high in known[part] if wide <= right - left)
                end = below if last else top + high
                self.part(part, known, (left, top, right, end), boxes)
                top = end
        self.assertTrue(left <= right and top <= below)

    def test_kinds(self):
        self.assertIs(type(least_high(BOTH, [["a"]] * 3, 9)), int)
        self.assertIs(type(least_wide(BOTH, [["a"]] * 3, 9)), int)


class NoTrees(unittest.TestCase):
    def refused(self, tree, texts):
        for ask in asks(tree, texts):
            with self.assertRaises(NoTree, msg=(tree, texts)) as caught:
                ask()
            self.assertIs(type(caught.exception), NoTree)

    def test_of_anything(self):
        for thing in no_trees():
            self.refused(thing, [["ab"]])
            self.refused(thing, [["ab"], ["cd"]])

    def test_ahead_of_texts_that_are_none(self):
        for thing in no_trees():
            for texts in (None, [], [7], ["ab"], [["a b"]], [["ab"] * 41], (["ab"],), OwnThing()):
                self.refused(thing, texts)

    def test_deep_within_one_another(self):
        thing = 0
        for deep in range(119):
            thing = ("|" if deep % 2 else "-", (thing, deep + 1))
        self.refused(thing, [[]] * 120)
        for deep in range(119):
            thing = [thing]
        self.refused(thing, [[]])


class NoTextsForTrees(unittest.TestCase):
    def refused(self, tree, texts):
        for ask in asks(tree, texts):
            with self.assertRaises(NoTexts, msg=(tree, texts)) as caught:
                ask()
            self.assertIs(type(caught.exception), NoTexts)

    def everywhere(self, text):
        self.refused(0, [text])
        for number in range(3):
            texts = [["ab"], [], ["cd", "ef"]]
            texts[number] = text
            self.refused(BOTH, texts)

    def test_no_list(self):
        for thing in no_lists():
            self.refused(0, thing)
            self.refused(BOTH, thing)
        self.refused(0, (["ab"],))
        self.refused(0, {0: ["ab"]})
        self.refused(BOTH, (["ab"], ["ab"], ["ab"]))

    def test_too_few_and_too_many(self):
        for tree in (0, ("|", (0, 1)), BOTH, deep_tree(24), broad_tree("-", 24)):
            many = boxes_of(tree)
            for other in (0, 1, many - 1, many + 1, 2000):
                if other != many:
                    self.refused(tree, [["ab"]] * other)
                    self.refused(tree, [[]] * other)

    def test_lists_within_that_are_none(self):
        for thing in no_lists():
            self.everywhere(thing)

    def test_tuples_and_texts_in_their_stead(self):
        for thing in (("ab",), (), "ab", "", "a", "ab cd", {"ab": 1}, {}):
            self.everywhere(thing)

    def test_no_words_in_them(self):
        for thing in no_words():
            self.everywhere([thing])
            self.everywhere(["ab", thing])
            self.everywhere([thing] + ["ab"] * 39)
            self.everywhere(["ab"] * 39 + [thing])

    def test_forty_one_words(self):
        self.everywhere(["a"] * 41)
        self.everywhere(["abcdefghijkl"] * 41)
        self.everywhere(["a"] * 200)
        self.everywhere(["a"] * 2000)
        self.assertEqual(tree_stairs(0, [["a"] * 40])[-1], (79, 1))
        self.assertEqual(least_high(0, [["a"] * 40], 1), 40)
        self.assertEqual(least_wide(0, [["a"] * 40], 1), 79)

    def test_the_list_of_a_text_for_the_list_of_texts(self):
        self.refused(0, ["ab"])
        self.refused(("|", (0, 1)), ["ab", "cd"])
        self.refused(0, [[["ab"]]])


class WhatIsHandedInAndTold(unittest.TestCase):
    def test_texts_stay_as_they_were(self):
        for tree in (0, BOTH, deep_tree(24), broad_tree("|", 24)):
            texts = full_texts(3, boxes_of(tree))
            stood = copy.deepcopy(texts)
            for ask in asks(tree, texts):
                ask()
                self.assertEqual(texts, stood)

    def test_texts_may_be_changed_behind(self):
        texts = [["a", "b", "c"], ["dd"], ["e", "f"]]
        told = tree_stairs(BOTH, texts)
        texts[0].append("abcdefghijkl")
        texts[1] = 7
        self.assertEqual(told, [(3, 3), (6, 2)])
        texts[1] = []
        self.assertEqual(tree_stairs(BOTH, texts), stairs_by_sums(BOTH, texts))

    def test_lists_are_new_ones_each_time(self):
        for tree in (0, BOTH, deep_tree(24), broad_tree("|", 24), broad_tree("-", 24)):
            for texts in ([[]] * boxes_of(tree), full_texts(4, boxes_of(tree))):
                one = tree_stairs(tree, texts)
                stood = list(one)
                other = tree_stairs(tree, texts)
                self.assertIsNot(one, other)
                one.append("changed")
                one.reverse()
                self.assertEqual(other, stood)
                other.clear()
                self.assertEqual(tree_stairs(tree, texts), stood)

    def test_one_list_may_be_the_text_of_several_boxes(self):
        words = ["ab", "c", "def"]
        texts = [words] * 24
        apart = [list(words) for number in range(24)]
        for tree in (deep_tree(24), broad_tree("|", 24), broad_tree("-", 24)):
            self.assertEqual(tree_stairs(tree, texts), tree_stairs(tree, apart))
        self.assertEqual(words, ["ab", "c", "def"])


if __name__ == "__main__":
    unittest.main()
