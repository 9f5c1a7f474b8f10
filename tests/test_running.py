import copy
import functools
import unittest

from pagepart.errors import NoNeeds, NoTexts
from pagepart.lines import lines
from pagepart.running import least_rooms, poured

from samples import OwnThing, no_lists, no_whole_numbers, no_words, words_by_chance

FOX = ["the", "quick", "brown", "fox", "jumps", "over", "it"]

FAR = (50000, 50001, 2 ** 64, 10 ** 300)


def no_rooms():
    """Things of which each is no room."""
    found = [
        None, True, False, 0, 5, 1.5, "", "ab", "5,5", b"ab", [], [5, 5], [5], {}, {5: 5}, {5, 6}, (), (5,), (5, 5, 5),
        (5, 5, 5, 5), ((5, 5),), ([5, 5],), (5, (5,)), range(5, 7), OwnThing(), OwnThing, tuple,
        (0, 5), (5, 0), (0, 0), (-1, 5), (5, -1), (-5, -5), (-(10 ** 300), 5),
    ]
    found += [(thing, 5) for thing in no_whole_numbers()]
    found += [(5, thing) for thing in no_whole_numbers()]
    return found


def no_lists_of_rooms():
    """Things that are no list, some of which hold rooms."""
    return no_lists() + [
        (5, 5), ((5, 5),), ((5, 5), (3, 3)), {(5, 5): 1}, {(5, 5)}, frozenset([(5, 5)]), iter([(5, 5)]), "(5, 5)",
    ]


def words_back(told):
    """All words of the lines and behind them those that are left."""
    rooms, left = told
    return [word for room in rooms for line in room for word in line.split(" ")] + left


def line_fits(words, wide):
    return len(" ".join(words)) <= wide


@functools.lru_cache(None)
def ends(words, wide, high):
    """All numbers of words that go into a room, from the first one on, by any breaking into lines."""
    found = {0}
    edge = {0}
    for line in range(min(high, len(words))):
        edge = {
            last for first in edge for last in range(first + 1, len(words) + 1) if line_fits(words[first:last], wide)
        }
        found |= edge
    return found


def most_by_all_ways(words, rooms):
    """For each number of rooms the most words that any way puts into these."""
    reached = {0}
    found = []
    for wide, high in rooms:
        reached = {first + many for first in reached for many in ends(tuple(words[first:]), wide, high)}
        found.append(max(reached))
    return found


def poured_by_steps(words, rooms):
    """Each room filled word by word."""
    left = list(words)
    told = []
    for wide, high in rooms:
        room = []
        while left and len(left[0]) <= wide:
            if room and len(room[-1]) + 1 + len(left[0]) <= wide:
                room[-1] += " " + left.pop(0)
            elif len(room) < high:
                room.append(left.pop(0))
            else:
                break
        told.append(room)
    return (told, left)


class Poured(unittest.TestCase):
    def told(self, words, rooms, filled, left):
        self.assertEqual(poured(words, rooms), (filled, left))

    def test_no_rooms(self):
        self.told([], [], [], [])
        self.told(["ab"], [], [], ["ab"])
        self.told(FOX, [], [], FOX)

    def test_no_words(self):
        self.told([], [(1, 1)], [[]], [])
        self.told([], [(1, 1), (50, 3), (2, 2)], [[], [], []], [])

    def test_one_room(self):
        self.told(FOX, [(9, 1)], [["the quick"]], FOX[2:])
        self.told(FOX, [(9, 2)], [["the quick", "brown fox"]], FOX[4:])
        self.told(FOX, [(9, 3)], [["the quick", "brown fox", "jumps"]], FOX[5:])
        self.told(FOX, [(9, 4)], [["the quick", "brown fox", "jumps", "over it"]], [])
        self.told(FOX, [(9, 5)], [["the quick", "brown fox", "jumps", "over it"]], [])
        self.told(FOX, [(33, 1)], [[" ".join(FOX)]], [])
        self.told(FOX, [(32, 1)], [[" ".join(FOX[:6])]], ["it"])

    def test_several_rooms(self):
        self.told(FOX, [(9, 1), (5, 2), (10, 9)], [["the quick"], ["brown", "fox"], ["jumps over", "it"]], [])
        self.told(FOX, [(9, 1), (9, 1)], [["the quick"], ["brown fox"]], ["jumps", "over", "it"])
        self.told(FOX, [(5, 1)] * 7, [[word] for word in FOX], [])
        self.told(FOX, [(5, 1)] * 9, [[word] for word in FOX] + [[], []], [])

    def test_a_room_too_narrow_for_the_next_word(self):
        self.told(["abc"], [(2, 5)], [[]], ["abc"])
        self.told(["abc", "d"], [(2, 5), (3, 1), (1, 1)], [[], ["abc"], ["d"]], [])
        # A room ends where a word is too wide for it, though it has lines left and shorter words are behind.
        self.told(["ab", "c", "defg", "h"], [(3, 9)], [["ab", "c"]], ["defg", "h"])
        self.told(["ab", "c", "defg", "h"], [(4, 9)], [["ab c", "defg", "h"]], [])
        self.told(["ab", "c", "defg", "h"], [(3, 9), (3, 9), (4, 1)], [["ab", "c"], [], ["defg"]], ["h"])

    def test_a_room_too_narrow_in_the_midst(self):
        self.told(["aa", "bbb", "c"], [(2, 1), (2, 4), (3, 1), (1, 1)], [["aa"], [], ["bbb"], ["c"]], [])
        self.told(["abcdefghijkl"] * 2, [(11, 9), (12, 1), (11, 9)], [[], ["abcdefghijkl"], []], ["abcdefghijkl"])

    def test_just_so_and_one_sign_too_wide(self):
        self.told(["ab", "cd"], [(5, 1)], [["ab cd"]], [])
        self.told(["ab", "cd"], [(4, 1)], [["ab"]], ["cd"])
        self.told(["ab", "cd"], [(2, 1)], [["ab"]], ["cd"])
        self.told(["ab", "cd"], [(1, 1)], [[]], ["ab", "cd"])

    def test_rooms_of_one_place(self):
        self.told(["a", "b", "c"], [(1, 1)] * 2, [["a"], ["b"]], ["c"])
        self.told(["a", "b", "c"], [(1, 1)] * 2000, [["a"], ["b"], ["c"]] + [[]] * 1997, [])
        self.told(["a", "bc", "d"], [(1, 1)] * 2000, [["a"]] + [[]] * 1999, ["bc", "d"])

    def test_far(self):
        for far in FAR:
            self.told(FOX, [(far, 1)], [[" ".join(FOX)]], [])
            self.told(FOX, [(5, far)], [FOX], [])
            self.told(FOX, [(far, far)] * 2, [[" ".join(FOX)], []], [])
            self.told(FOX, [(3, far)] * 2, [["the"], []], FOX[1:])

    def test_lines_are_those_of_the_width(self):
        for seed in range(40):
            words = words_by_chance(seed, seed * 5)
            for wide in (12, 13, 20, 41):
                self.told(words, [(wide, 200)], [lines(words, wide)], [])

    def test_word_by_word(self):
        for seed in range(120):
            words = words_by_chance(seed, (seed * 7) % 201, 1, 2 + seed % 11)
            rooms = [(1 + (seed * k * 5 + k) % 17, 1 + (seed + k * 3) % 4) for k in range(1, 2 + seed % 30)]
            told = poured(words, rooms)
            self.assertEqual(told, poured_by_steps(words, rooms))
            self.assertEqual(words_back(told), words)

    def test_each_room_is_filled_as_told(self):
        for seed in range(120):
            words = words_by_chance(seed, 60, 1, 2 + seed % 11)
            rooms = [(1 + (seed * k * 5 + k) % 17, 1 + (seed + k * 3) % 4) for k in range(1, 12)]
            filled, left = poured(words, rooms)
            behind = list(words)
            for (wide, high), room in zip(rooms, filled):
                self.assertLessEqual(len(room), high)
                for line in room:
                    self.assertLessEqual(len(line), wide)
                behind = behind[len(" ".join(room).split(" ")) if room else 0:]
                if behind and len(room) < high:
                    self.assertGreater(len(behind[0]), wide)
                if behind and room:
                    self.assertGreater(len(room[-1]) + 1 + len(behind[0]), wide)
            self.assertEqual(behind, left)

    def test_no_other_way_puts_more_words_into_the_first_rooms(self):
        for seed in range(200):
            words = words_by_chance(seed, seed % 10, 1, 1 + seed % 4)
            rooms = [(1 + (seed * k + k * k) % 6, 1 + (seed + k) % 3) for k in range(1, 2 + seed % 5)]
            filled, left = poured(words, rooms)
            put = []
            for room in filled:
                put.append((put[-1] if put else 0) + sum(len(line.split(" ")) for line in room))
            self.assertEqual(put, most_by_all_ways(words, rooms), (words, rooms))
            self.assertEqual(left, words[put[-1]:])

    def test_two_hundred_words(self):
        words = words_by_chance(5, 200)
        rooms = [(12 + k % 9, 1 + k % 5) for k in range(24)]
        self.assertEqual(poured(words, rooms), poured_by_steps(words, rooms))
        self.told(["a"] * 200, [(399, 1)], [[" ".join(["a"] * 200)]], [])
        self.told(["a"] * 200, [(1, 199)], [["a"] * 199], ["a"])

    def test_kinds(self):
        told = poured(FOX, [(9, 1), (2, 2)])
        self.assertIs(type(told), tuple)
        self.assertEqual([type(part) for part in told], [list, list])
        self.assertEqual([type(room) for room in told[0]], [list, list])
        self.assertEqual({type(text) for text in told[0][0] + told[1]}, {str})

    def test_by_name(self):
        self.assertEqual(poured(words=["ab"], rooms=[(2, 1)]), ([["ab"]], []))


class NoRooms(unittest.TestCase):
    def refused(self, rooms):
        for words in ([], ["ab"], FOX, ["abcdefghijkl"] * 200):
            with self.assertRaises(NoNeeds, msg=(rooms,)) as caught:
                poured(words, rooms)
            self.assertIs(type(caught.exception), NoNeeds)

    def test_no_list(self):
        for thing in no_lists_of_rooms():
            self.refused(thing)

    def test_no_room_in_it(self):
        for thing in no_rooms():
            self.refused([thing])

    def test_wherever_it_stands(self):
        for thing in no_rooms():
            self.refused([thing, (50, 50), (50, 50)])
            self.refused([(50, 50), thing, (50, 50)])
            self.refused([(50, 50), (50, 50), thing])
            self.refused([(50, 50)] * 1999 + [thing])

    def test_least_rooms_of_one_place_are_some(self):
        self.assertEqual(poured(["a"], [(1, 1)]), ([["a"]], []))


class NoWords(unittest.TestCase):
    def refused(self, things, rooms):
        with self.assertRaises(NoTexts, msg=(things, rooms)) as caught:
            poured(things, rooms)
        self.assertIs(type(caught.exception), NoTexts)

    def refused_by_both(self, things):
        for rooms in ([], [(5, 5)], [(1, 1), (50, 50)]):
            self.refused(things, rooms)
        for many, wide in ((1, 12), (24, 50), (1, 1), (3, 0), (3, -1)):
            with self.assertRaises(NoTexts, msg=(things, many, wide)) as caught:
                least_rooms(things, many, wide)
            self.assertIs(type(caught.exception), NoTexts)

    def test_no_list(self):
        for thing in no_lists():
            self.refused_by_both(thing)

    def test_no_words_in_it(self):
        for thing in no_words():
            self.refused_by_both([thing])
            self.refused_by_both([thing, "ab", "cd"])
            self.refused_by_both(["ab", thing, "cd"])
            self.refused_by_both(["ab", "cd", thing])
            self.refused_by_both(["abcdefghijkl"] * 199 + [thing])

    def test_ahead_of_rooms_that_are_none(self):
        for words in [["a b"], [7], "ab", None, ("ab",), [""], ["a" * 13]]:
            for thing in no_lists_of_rooms():
                self.refused(words, thing)
            for thing in no_rooms():
                self.refused(words, [thing])

    def test_none_of_both(self):
        for thing in no_lists():
            self.refused(thing, thing)


class LeastRooms(unittest.TestCase):
    def test_no_words(self):
        for wide in (1, 12, 50000, 10 ** 300, 0, -1, -50000, -(10 ** 300)):
            for many in (1, 2, 23, 24):
                self.assertEqual(least_rooms([], many, wide), 1)

    def test_one_word(self):
        for many in range(1, 25):
            self.assertEqual(least_rooms(["abc"], many, 3), 1)
            self.assertIs(least_rooms(["abc"], many, 2), None)

    def test_some_words(self):
        # Seven lines in a width of 5, four in one of 9.
        self.assertEqual([least_rooms(FOX, many, 5) for many in range(1, 9)], [7, 4, 3, 2, 2, 2, 1, 1])
        self.assertEqual([least_rooms(FOX, many, 9) for many in range(1, 6)], [4, 2, 2, 1, 1])
        self.assertEqual([least_rooms(FOX, many, 33) for many in (1, 2, 24)], [1, 1, 1])
        self.assertEqual([least_rooms(FOX, many, 50000) for many in (1, 2, 24)], [1, 1, 1])

    def test_a_word_too_wide(self):
        for wide in (4, 3, 1, 0, -1, -50000, -(10 ** 300)):
            for many in (1, 2, 24):
                self.assertIs(least_rooms(FOX, many, wide), None)
                self.assertIs(least_rooms(["abcde"], many, wide), None)
                self.assertIs(least_rooms(["a"] * 199 + ["abcde"], many, wide), None)
                self.assertIs(least_rooms(["abcde"] + ["a"] * 199, many, wide), None)
        self.assertIs(least_rooms(["abcdefghijkl"], 24, 11), None)
        self.assertEqual(least_rooms(["abcdefghijkl"], 24, 12), 1)

    def test_looked_at_by_pouring(self):
        for seed in range(40):
            words = words_by_chance(seed, 1 + (seed * 11) % 200, 1, 2 + seed % 11)
            for wide in (12, 13, 20, 37, 1 + len(" ".join(words)) // 3 + 12):
                for many in (1, 2, 3, 7, 23, 24):
                    self.by_pouring(words, many, wide)

    def test_two_hundred_words(self):
        for words in (["a"] * 200, ["abcdefghijkl"] * 200, words_by_chance(9, 200)):
            for many in range(1, 25):
                for wide in (12, 25, 60):
                    self.by_pouring(words, many, wide)
        self.assertEqual(least_rooms(["a"] * 200, 24, 1), 9)
        self.assertEqual(least_rooms(["a"] * 200, 24, 2), 9)
        self.assertEqual(least_rooms(["a"] * 200, 20, 1), 10)
        self.assertEqual(least_rooms(["a"] * 200, 1, 1), 200)

    def by_pouring(self, words, many, wide):
        high = least_rooms(words, many, wide)
        self.assertGreaterEqual(high, 1)
        self.assertEqual(poured(words, [(wide, high)] * many)[1], [])
        if high > 1:
            self.assertNotEqual(poured(words, [(wide, high - 1)] * many)[1], [])

    def test_kinds(self):
        self.assertIs(type(least_rooms(FOX, 2, 9)), int)
        self.assertIs(type(least_rooms([], 2, 9)), int)

    def test_by_name(self):
        self.assertEqual(least_rooms(words=FOX, many=2, wide=9), 2)


class WhatIsHandedInAndTold(unittest.TestCase):
    def test_words_and_rooms_stay_as_they_were(self):
        for seed in range(20):
            words = words_by_chance(seed, seed * 3, 1, 7)
            rooms = [(5 + k, 1 + k % 3) for k in range(seed)]
            stood = (list(words), list(rooms))
            poured(words, rooms)
            least_rooms(words, 3, 7)
            least_rooms(words, 3, 1)
            self.assertEqual((words, rooms), stood)

    def test_they_may_be_changed_behind(self):
        words = list(FOX)
        rooms = [(9, 1), (9, 1)]
        told = poured(words, rooms)
        words.clear()
        rooms[0] = 7
        self.assertEqual(told, ([["the quick"], ["brown fox"]], ["jumps", "over", "it"]))

    def test_what_is_left_is_another_list(self):
        for words in ([], ["ab"], list(FOX)):
            for rooms in ([], [(1, 1)]):
                told = poured(words, rooms)
                self.assertEqual(told[1], words)
                self.assertIsNot(told[1], words)
                self.assertIsNot(told[0], rooms)
                told[1].append("changed")
                self.assertEqual(len(words), len(told[1]) - 1)

    def test_no_two_lists_are_one(self):
        for words in ([], ["ab"], list(FOX)):
            rooms = [(1, 1), (9, 1), (2, 2), (9, 2), (5, 1), (1, 1)]
            told = [poured(words, rooms), poured(words, rooms)]
            lists = [words, rooms] + [part for one in told for part in one] + [room for one in told for room in one[0]]
            self.assertEqual(len({id(one) for one in lists}), 2 + 4 + 12)

    def test_lists_are_new_ones_each_time(self):
        rooms = [(9, 1), (2, 2), (5, 1), (1, 1)]
        stood = copy.deepcopy(poured(FOX, rooms))
        one = poured(FOX, rooms)
        other = poured(FOX, rooms)
        for room in one[0]:
            room.append("changed")
        one[0].clear()
        one[1].clear()
        self.assertEqual(other, stood)
        self.assertEqual(poured(FOX, rooms), stood)


if __name__ == "__main__":
    unittest.main()
