import itertools
import unittest

from pagepart.errors import NoPicture
from pagepart.pages import box_at, make_page
from pagepart.pictures import picture, read_picture

from samples import STEPS, WHEEL, pages_of, small_pages, strips_across, strips_down

LETTERS = "abcdefghijklmnopqrstuvwx"


def by_other_signs(rows, signs):
    return ["".join([signs[LETTERS.index(sign)] for sign in row]) for row in rows]


def grid(across, down, size):
    return [
        (x * size, y * size, (x + 1) * size, (y + 1) * size)
        for y in range(down)
        for x in range(across)
    ]


class PicturesTold(unittest.TestCase):
    def test_ordinary_pages(self):
        self.assertEqual(picture(WHEEL), ["aab", "cdb", "cee"])
        self.assertEqual(
            picture(STEPS),
            ["aaaabbb", "aaaabbb", "cdddbbb", "ceeebbb", "ceeebbb", "ceeefff"],
        )

    def test_one_place(self):
        self.assertEqual(picture((1, 1, ((0, 0, 1, 1),))), ["a"])

    def test_one_box(self):
        self.assertEqual(picture((3, 2, ((0, 0, 3, 2),))), ["aaa", "aaa"])

    def test_twenty_four_boxes(self):
        self.assertEqual(picture(make_page(24, 1, strips_across(24))), [LETTERS])
        self.assertEqual(picture(make_page(1, 24, strips_down(24))), list(LETTERS))
        self.assertEqual(
            picture(make_page(6, 4, grid(6, 4, 1))),
            ["abcdef", "ghijkl", "mnopqr", "stuvwx"],
        )

    def test_each_place_has_the_sign_of_its_box(self):
        for page in small_pages():
            rows = picture(page)
            self.assertEqual(len(rows), page[1])
            for y, row in enumerate(rows):
                self.assertEqual(row, "".join([LETTERS[box_at(page, x, y)] for x in range(page[0])]))

    def test_as_wide_and_high_as_may_be(self):
        self.assertEqual(picture((200, 200, ((0, 0, 200, 200),))), ["a" * 200] * 200)
        page = make_page(200, 200, [(0, 0, 199, 199), (199, 0, 200, 200), (0, 199, 199, 200)])
        self.assertEqual(picture(page), ["a" * 199 + "b"] * 199 + ["c" * 199 + "b"])

    def test_kinds(self):
        rows = picture(WHEEL)
        self.assertIs(type(rows), list)
        self.assertEqual([type(row) for row in rows], [str] * 3)

    def test_the_list_is_new_each_time(self):
        one = picture(WHEEL)
        other = picture(WHEEL)
        self.assertIsNot(one, other)
        one[0] = "zzz"
        one.append("zzz")
        self.assertEqual(other, ["aab", "cdb", "cee"])
        self.assertEqual(picture(WHEEL), ["aab", "cdb", "cee"])

    def test_by_name(self):
        self.assertEqual(picture(page=WHEEL), ["aab", "cdb", "cee"])


class PicturesRead(unittest.TestCase):
    def test_by_their_own_signs(self):
        for page in small_pages() + [WHEEL, STEPS]:
            self.assertEqual(read_picture(picture(page)), page)

    def test_by_other_signs(self):
        others = [LETTERS[::-1], " !\"#$&'()*+,-./0123456789", "~}|{zyxwvutsrqponmlkjihg", "ABCDEFGHIJKLMNOPQRSTUVWX"]
        for signs in others:
            for page in small_pages() + [WHEEL, STEPS]:
                self.assertEqual(read_picture(by_other_signs(picture(page), signs)), page)

    def test_by_signs_of_any_order(self):
        for signs in itertools.permutations("aZ ~9"):
            self.assertEqual(read_picture(by_other_signs(["aab", "cdb", "cee"], signs)), WHEEL)

    def test_one_place(self):
        for sign in ("a", "x", "y", " ", "~", "0"):
            self.assertEqual(read_picture([sign]), (1, 1, ((0, 0, 1, 1),)))

    def test_blanks_are_signs(self):
        self.assertEqual(read_picture(["  ", "  "]), (2, 2, ((0, 0, 2, 2),)))
        self.assertEqual(read_picture([" .", " ."]), (2, 2, ((0, 0, 1, 2), (1, 0, 2, 2))))

    def test_twenty_four_signs(self):
        self.assertEqual(read_picture([LETTERS]), (24, 1, tuple(strips_across(24))))
        self.assertEqual(read_picture([LETTERS[::-1]]), (24, 1, tuple(strips_across(24))))
        self.assertEqual(read_picture(list(LETTERS)), (1, 24, tuple(strips_down(24))))
        self.assertEqual(read_picture(["FEDCBA", "LKJIHG", "RQPONM", "XWVUTS"]), (6, 4, tuple(grid(6, 4, 1))))

    def test_as_wide_and_high_as_may_be(self):
        self.assertEqual(read_picture(["q" * 200] * 200), (200, 200, ((0, 0, 200, 200),)))
        rows = ["z" * 199 + "b"] * 199 + ["c" * 199 + "b"]
        self.assertEqual(read_picture(rows), (200, 200, ((0, 0, 199, 199), (199, 0, 200, 200), (0, 199, 199, 200))))
        page = make_page(180, 120, grid(6, 4, 30))
        self.assertEqual(read_picture(picture(page)), page)

    def test_kinds(self):
        page = read_picture(["ab", "ab"])
        self.assertIs(type(page), tuple)
        self.assertIs(type(page[2]), tuple)
        for box in page[2]:
            self.assertIs(type(box), tuple)
            self.assertEqual([type(part) for part in box], [int] * 4)

    def test_the_list_stays_and_is_not_kept(self):
        rows = ["aab", "cdb", "cee"]
        page = read_picture(rows)
        self.assertEqual(rows, ["aab", "cdb", "cee"])
        rows[1] = "zzz"
        rows.append("zzz")
        self.assertEqual(page, WHEEL)
        rows.clear()
        self.assertEqual(page, WHEEL)

    def test_by_name(self):
        self.assertEqual(read_picture(rows=["aab", "cdb", "cee"]), WHEEL)


class PicturesRefused(unittest.TestCase):
    def refused(self, rows):
        with self.assertRaises(NoPicture, msg=rows) as caught:
            read_picture(rows)
        self.assertIs(type(caught.exception), NoPicture)

    def test_no_texts(self):
        self.refused([])

    def test_no_signs(self):
        for many in (1, 2, 24, 25, 200):
            self.refused([""] * many)

    def test_texts_of_unlike_lengths(self):
        self.refused(["aa", "a"])
        self.refused(["a", "aa"])
        self.refused(["a", ""])
        self.refused(["", "a"])
        self.refused(["ab", "ab", "a"])
        self.refused(["aab", "aa"])
        self.refused(["aa", "b"])
        self.refused(["a", "bb"])
        self.refused(["aaa", "a", "aaa"])
        self.refused(["a" * 200] * 199 + ["a" * 199])

    def test_places_that_are_no_box(self):
        self.refused(["aba"])
        self.refused(["a", "b", "a"])
        self.refused(["ab", "ba"])
        self.refused(["aa", "ab"])
        self.refused(["ab", "aa"])
        self.refused(["ba", "aa"])
        self.refused(["aa", "ba"])
        self.refused(["aaa", "aba", "aaa"])
        self.refused(["aab", "abb"])
        self.refused(["abc", "cba"])
        self.refused(["a" * 200] * 199 + ["a" * 199 + "b"])
        self.refused(["a" * 200] * 100 + ["a" * 100 + "b" + "a" * 99] + ["a" * 200] * 99)

    def test_too_many_signs(self):
        self.refused([LETTERS + "y"])
        self.refused(list(LETTERS + "y"))
        self.refused(["abcde", "fghij", "klmno", "pqrst", "uvwxy"])
        self.refused([LETTERS + "yz", LETTERS + "yz"])
        self.refused(["".join([chr(k) for k in range(32, 127) if chr(k) != chr(37)])])

    def test_what_is_no_list_of_texts(self):
        for thing in (None, 3, "", "ab", ("ab",), {"ab": "ab"}, [None], [3], ["ab", None], [["a", "b"]]):
            self.refused(thing)

    def test_the_list_stays_where_it_is_refused(self):
        rows = ["ab", "ba"]
        self.refused(rows)
        self.assertEqual(rows, ["ab", "ba"])

    def test_every_small_list(self):
        for wide, high, signs in ((3, 3, "xyz"), (2, 2, "wxyz"), (4, 2, "xyz"), (2, 4, "xyz")):
            # Each page by each choice of signs for its boxes, told without the reader.
            told = {
                tuple(by_other_signs(picture(page), chosen)): page
                for page in pages_of(wide, high)
                if len(page[2]) <= len(signs)
                for chosen in itertools.permutations(signs, len(page[2]))
            }
            for row in itertools.product(signs, repeat=wide * high):
                rows = ["".join(row[y * wide:(y + 1) * wide]) for y in range(high)]
                if tuple(rows) in told:
                    self.assertEqual(read_picture(rows), told[tuple(rows)])
                else:
                    self.refused(rows)


if __name__ == "__main__":
    unittest.main()
