import itertools
import unittest

from pagepart.errors import NoRoom, NoTexts
from pagepart.lines import lines, text_stairs

from samples import WORD_SIGNS, no_lists, no_words, words_by_chance

FAR = (50000, 50001, 2 ** 64, 10 ** 300)


def texts():
    """Words of many lengths, few and many of them, alike ones among them."""
    found = [[], ["a"], ["abcdefghijkl"], ["a"] * 2, ["a"] * 7, ["ab"] * 12, ["abcdefghijkl"] * 5, ["a"] * 200]
    found += [["a", "abcdefghijkl"] * 4, ["abcdefghijkl", "a"] * 4, ["a", "bb", "ccc", "dddd", "eeeee"]]
    found += [words_by_chance(seed, seed % 13) for seed in range(40)]
    found += [words_by_chance(seed, seed % 41, 1, 4) for seed in range(40)]
    return found


def widest(words):
    return max([len(word) for word in words], default=1)


def whole(words):
    """The width of all words in one line."""
    return max(len(" ".join(words)), 1)


def lines_by_counting(words, wide):
    """How many lines the words take, told without setting them."""
    many = 0
    left = -1
    for word in words:
        if left < len(word) + 1:
            many += 1
            left = wide - len(word)
        else:
            left -= len(word) + 1
    return many


def breakings(words):
    """All ways to break the words into lines."""
    for many in range(len(words)):
        for places in itertools.combinations(range(1, len(words)), many):
            edges = [0, *places, len(words)]
            yield [" ".join(words[first:last]) for first, last in zip(edges, edges[1:])]


class Lines(unittest.TestCase):
    def test_no_words_are_no_lines(self):
        for wide in (1, 0, -1, 7, -50000, -(10 ** 300)) + FAR:
            self.assertEqual(lines([], wide), [])

    def test_one_word(self):
        self.assertEqual(lines(["a"], 1), ["a"])
        self.assertEqual(lines(["abc"], 3), ["abc"])
        self.assertEqual(lines(["abc"], 4), ["abc"])
        self.assertEqual(lines(["abcdefghijkl"], 12), ["abcdefghijkl"])

    def test_as_many_as_its_width_lets(self):
        words = ["the", "quick", "brown", "fox", "jumps", "over", "it"]
        self.assertEqual(lines(words, 5), ["the", "quick", "brown", "fox", "jumps", "over", "it"])
        self.assertEqual(lines(words, 7), ["the", "quick", "brown", "fox", "jumps", "over it"])
        self.assertEqual(lines(words, 9), ["the quick", "brown fox", "jumps", "over it"])
        self.assertEqual(lines(words, 15), ["the quick brown", "fox jumps over", "it"])
        self.assertEqual(lines(words, 33), ["the quick brown fox jumps over it"])

    def test_just_so_and_one_sign_too_wide(self):
        self.assertEqual(lines(["ab", "cd"], 5), ["ab cd"])
        self.assertEqual(lines(["ab", "cd"], 4), ["ab", "cd"])
        self.assertEqual(lines(["ab", "cd", "e"], 7), ["ab cd e"])
        self.assertEqual(lines(["ab", "cd", "e"], 6), ["ab cd", "e"])
        self.assertEqual(lines(["ab", "cd", "e"], 4), ["ab", "cd e"])
        self.assertEqual(lines(["ab", "cd", "e"], 3), ["ab", "cd", "e"])

    def test_a_line_behind_a_full_one_begins_anew(self):
        self.assertEqual(lines(["aaaa", "b", "c", "d", "eeee", "f"], 5), ["aaaa", "b c d", "eeee", "f"])

    def test_a_short_word_behind_does_not_go_ahead(self):
        self.assertEqual(lines(["aaa", "bbbbb", "c"], 6), ["aaa", "bbbbb", "c"])

    def test_a_width_of_one(self):
        self.assertEqual(lines(["a"] * 3, 1), ["a", "a", "a"])
        self.assertEqual(lines(["a"] * 3, 2), ["a", "a", "a"])
        self.assertEqual(lines(["a"] * 3, 3), ["a a", "a"])

    def test_far_beyond(self):
        for wide in FAR:
            self.assertEqual(lines(["ab", "c"], wide), ["ab c"])
            self.assertEqual(lines(["a"] * 200, wide), [" ".join(["a"] * 200)])

    def test_two_hundred_words(self):
        words = words_by_chance(1, 200)
        for wide in (12, 13, 40, 400, 1500, 2599, SUM_OF_200):
            self.set_well(words, wide)
        long = ["abcdefghijkl"] * 200
        self.assertEqual(lines(long, 12), long)
        self.assertEqual(lines(long, 24), long)
        self.assertEqual(lines(long, 25), ["abcdefghijkl abcdefghijkl"] * 100)
        self.assertEqual(lines(long, 2598), [" ".join(long[:199]), "abcdefghijkl"])
        self.assertEqual(lines(long, 2599), [" ".join(long)])

    def test_at_every_width(self):
        for words in texts():
            for wide in range(widest(words), whole(words) + 3):
                self.set_well(words, wide)

    def set_well(self, words, wide):
        told = lines(words, wide)
        self.assertEqual(" ".join(told).split(" ") if told else [], words)
        self.assertEqual(len(told), lines_by_counting(words, wide))
        for row in told:
            self.assertLessEqual(len(row), wide)
        for row, behind in zip(told, told[1:]):
            self.assertGreater(len(row) + 1 + len(behind.split(" ")[0]), wide)

    def test_no_other_breaking_has_fewer_lines(self):
        for words in [words_by_chance(seed, seed % 9, 1, 5) for seed in range(60)]:
            ways = list(breakings(words))
            for wide in range(widest(words), whole(words) + 2):
                fitting = [len(way) for way in ways if all(len(row) <= wide for row in way)]
                self.assertEqual(len(lines(words, wide)), min(fitting, default=0))

    def test_all_signs(self):
        self.assertEqual(len(WORD_SIGNS), 93)
        for sign in WORD_SIGNS:
            self.assertEqual(lines([sign, sign * 12], 12), [sign, sign * 12])

    def test_kinds(self):
        told = lines(["ab", "cd"], 2)
        self.assertIs(type(told), list)
        self.assertEqual([type(row) for row in told], [str, str])
        self.assertIs(type(lines([], 1)), list)

    def test_by_name(self):
        self.assertEqual(lines(words=["ab", "cd"], wide=5), ["ab cd"])


SUM_OF_200 = len(" ".join(words_by_chance(1, 200)))


class NoRoomInLines(unittest.TestCase):
    def refused(self, words, wide):
        with self.assertRaises(NoRoom, msg=(words, wide)) as caught:
            lines(words, wide)
        self.assertIs(type(caught.exception), NoRoom)

    def test_one_sign_too_wide(self):
        self.refused(["ab"], 1)
        self.refused(["abcdefghijkl"], 11)
        for many in range(1, 13):
            self.refused(["a" * many], many - 1)
            self.assertEqual(lines(["a" * many], many), ["a" * many])

    def test_wherever_it_stands(self):
        for number in range(5):
            words = ["a"] * 5
            words[number] = "abcd"
            self.refused(words, 3)
            self.assertEqual(len(lines(words, 4)), lines_by_counting(words, 4))
        self.refused(["a"] * 199 + ["abcd"], 3)

    def test_nought_and_below(self):
        for wide in (0, -1, -2, -12, -50000, -(10 ** 300)):
            self.refused(["a"], wide)
            self.refused(["a", "b"], wide)
            self.refused(["abcdefghijkl"] * 200, wide)


class NoTextsForLines(unittest.TestCase):
    def refused(self, things):
        for wide in (12, 50000, 3, 1, 0, -1):
            with self.assertRaises(NoTexts, msg=(things, wide)) as caught:
                lines(things, wide)
            self.assertIs(type(caught.exception), NoTexts)
        with self.assertRaises(NoTexts, msg=(things,)) as caught:
            text_stairs(things)
        self.assertIs(type(caught.exception), NoTexts)

    def test_no_list(self):
        for thing in no_lists():
            self.refused(thing)

    def test_no_words_in_it(self):
        for thing in no_words():
            self.refused([thing])

    def test_wherever_it_stands(self):
        for thing in no_words():
            self.refused([thing, "ab", "cd"])
            self.refused(["ab", thing, "cd"])
            self.refused(["ab", "cd", thing])
            self.refused(["ab"] * 199 + [thing])

    def test_ahead_of_a_word_too_wide(self):
        for thing in no_words():
            self.refused(["abcdefghijkl", thing])
            self.refused([thing, "abcdefghijkl"])

    def test_thirteen_signs(self):
        self.refused(["abcdefghijklm"])
        self.assertEqual(lines(["abcdefghijkl"], 13), ["abcdefghijkl"])
        self.assertEqual(text_stairs(["abcdefghijkl"]), [(12, 1)])

    def test_each_sign_told_apart(self):
        for number in range(0x300):
            if chr(number) in WORD_SIGNS:
                self.assertEqual(lines([chr(number)], 1), [chr(number)])
                self.assertEqual(text_stairs(["a" + chr(number)]), [(2, 1)])
            else:
                self.refused([chr(number)])
                self.refused(["a" + chr(number)])
                self.refused([chr(number) + "a"])


class TextStairs(unittest.TestCase):
    def test_no_words(self):
        self.assertEqual(text_stairs([]), [(1, 1)])

    def test_one_word(self):
        for many in range(1, 13):
            self.assertEqual(text_stairs(["a" * many]), [(many, 1)])

    def test_two_words(self):
        self.assertEqual(text_stairs(["ab", "cde"]), [(3, 2), (6, 1)])
        self.assertEqual(text_stairs(["cde", "ab"]), [(3, 2), (6, 1)])

    def test_words_alike(self):
        self.assertEqual(text_stairs(["a"] * 4), [(1, 4), (3, 2), (7, 1)])
        self.assertEqual(text_stairs(["ab"] * 5), [(2, 5), (5, 3), (8, 2), (14, 1)])
        self.assertEqual(text_stairs(["a"] * 7), [(1, 7), (3, 4), (5, 3), (7, 2), (13, 1)])

    def test_the_first_one_may_be_less_high_than_words_are_many(self):
        self.assertEqual(text_stairs(["a", "b", "abcde"]), [(5, 2), (9, 1)])
        self.assertEqual(text_stairs(["abcdefghijkl", "a", "b"]), [(12, 2), (16, 1)])

    def test_a_wider_line_that_saves_none_is_no_stair(self):
        words = ["aa", "b", "c"]
        self.assertEqual([lines(words, wide) for wide in (3, 4)], [["aa", "b c"], ["aa b", "c"]])
        self.assertEqual(text_stairs(words), [(2, 3), (3, 2), (6, 1)])
        words = ["a", "b", "c", "d", "e"]
        self.assertEqual([lines(words, wide) for wide in (5, 7)], [["a b c", "d e"], ["a b c d", "e"]])
        self.assertEqual(text_stairs(words), [(1, 5), (3, 3), (5, 2), (9, 1)])

    def test_several_lines_saved_at_once(self):
        self.assertEqual(text_stairs(["ab"] * 6), [(2, 6), (5, 3), (8, 2), (17, 1)])

    def test_by_setting_the_words_at_every_width(self):
        for words in texts():
            self.by_every_width(words)

    def test_two_hundred_words(self):
        for words in (["a"] * 200, ["abcdefghijkl"] * 200, words_by_chance(2, 200), words_by_chance(3, 200, 1, 3)):
            self.by_every_width(words)

    def by_every_width(self, words):
        expected = {}
        for wide in range(widest(words), whole(words) + 1):
            expected.setdefault(lines_by_counting(words, wide) or 1, wide)
        self.assertEqual(text_stairs(words), [(wide, high) for high, wide in expected.items()])

    def test_widths_rise_and_heights_fall(self):
        for words in texts():
            told = text_stairs(words)
            self.assertEqual(told[0][0], widest(words))
            self.assertEqual(told[-1], (whole(words), 1))
            for one, other in zip(told, told[1:]):
                self.assertLess(one[0], other[0])
                self.assertGreater(one[1], other[1])

    def test_each_is_the_least_width_for_so_many_lines(self):
        for words in [words for words in texts() if words]:
            for wide, high in text_stairs(words):
                self.assertEqual(len(lines(words, wide)), high)
                if wide > widest(words):
                    self.assertGreater(len(lines(words, wide - 1)), high)

    def test_no_other_breaking_is_narrower(self):
        for words in [words_by_chance(seed, 1 + seed % 8, 1, 5) for seed in range(40)]:
            ways = [(max(len(row) for row in way), len(way)) for way in breakings(words)]
            least = sorted(way for way in set(ways) if not any(self.beats(other, way) for other in ways))
            self.assertEqual(text_stairs(words), least)

    def beats(self, one, other):
        return one != other and one[0] <= other[0] and one[1] <= other[1]

    def test_kinds(self):
        for told in (text_stairs([]), text_stairs(["a"]), text_stairs(["ab"] * 5)):
            self.assertIs(type(told), list)
            for stair in told:
                self.assertIs(type(stair), tuple)
                self.assertEqual([type(part) for part in stair], [int] * 2)

    def test_by_name(self):
        self.assertEqual(text_stairs(words=["ab"]), [(2, 1)])


class WhatIsHandedInAndTold(unittest.TestCase):
    def test_words_stay_as_they_were(self):
        for words in texts():
            stood = list(words)
            lines(words, 12)
            text_stairs(words)
            self.assertEqual(words, stood)

    def test_words_may_be_changed_behind(self):
        words = ["ab", "cd"]
        told, stairs = lines(words, 2), text_stairs(words)
        words[0] = "abcdef"
        words.append("x")
        self.assertEqual((told, stairs), (["ab", "cd"], [(2, 2), (5, 1)]))
        self.assertEqual(lines(["ab", "cd"], 2), ["ab", "cd"])
        words.clear()
        self.assertEqual(text_stairs(["ab", "cd"]), [(2, 2), (5, 1)])

    def test_a_width_of_each_word_alone_tells_another_list(self):
        words = ["ab", "cd"]
        told = lines(words, 2)
        self.assertEqual(told, words)
        self.assertIsNot(told, words)
        told.clear()
        self.assertEqual(words, ["ab", "cd"])
        empty = []
        self.assertIsNot(lines(empty, 2), empty)

    def test_lists_are_new_ones_each_time(self):
        for words in ([], ["ab"], ["ab"] * 5):
            for ask in (lambda: lines(words, 5), lambda: text_stairs(words)):
                one = ask()
                stood = list(one)
                other = ask()
                self.assertIsNot(one, other)
                one.append("changed")
                one.reverse()
                self.assertEqual(other, stood)
                other.clear()
                self.assertEqual(ask(), stood)


if __name__ == "__main__":
    unittest.main()
