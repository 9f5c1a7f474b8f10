import itertools
import unittest

from pagepart.cutting import tree_of
from pagepart.desk import Desk
from pagepart.errors import NoNumber, NoPlace, NoRoom, NoRow, NoTexts, NoTree, PartError
from pagepart.pages import make_page
from pagepart.printing import printed
from pagepart.setting import setting
from pagepart.stairs import least_high, least_wide, tree_stairs
from pagepart.trees import boxes_of, show_tree

from samples import (
    WORD_SIGNS, OwnThing, broad_tree, deep_tree, full_texts, full_trees, no_words, tree_by_chance, words_by_chance,
)

FIRST_WORDS = ["tree", "text", "high", "wide", "stairs", "print", "box", "words", "page"]

BOTH_ROWS = ["tree (|0 (-2 1))", "text 0 a b c", "text 1 dd", "text 2 e f"]

NO_NUMBERS = [
    "", "00", "01", "007", "00000", "050", "+5", "-5", "-0", "+0", "5.", "5.0", ".5", "5,0", "1e3", "0x5", "5_0", "five",
    "a", "5a", "a5", "123456", "100000", "000005", "50001", "50002", "99999", "60000", "1" * 12, "1" * 4000, "9" * 5000,
    "0" * 4000, "5\n", "\n5", "5\t", "\t5", "\n", "\t", "\u00b2", "\u0665", "\uff15", "5\u0665", "\u2460", "\u0967",
    "%", "5%", "(0)", "|", "\x00", "5\x00", "\u00a05", "\ud800", "None", "True", "none", "O", "l", "''", "~",
]

NO_TREES = [
    "", "1", "7", "00", "01", "-1", "+0", "a", "(", ")", "()", "(|)", "(|0)", "(|0 1", "|0 1)", "|0 1", "0 1", "(0 1)",
    "(|0 0)", "(|0 2)", "(|1 2)", "(|0 1))", "((|0 1))", "(| 0 1)", "(|0 1 )", "(|0  1)", " (|0 1)", "(|0 1) ", "0 ", " 0",
    "(|0 (|1 2))", "(-(-0 1) 2)", "(/0 1)", "(|0,1)", "(|0\n1)", "(|0\t1)", "(|0 1)\n", "(|0 01)", "(|0 \u0661)", "\u0660",
    "tree 0", "(" * 3990, ")" * 3990, "(|0 " * 900, "stuck", "None", "[0]", "('|', (0, 1))",
    show_tree(broad_tree("|", 24))[:-1] + " 24)",
]


def written(tree):
    """A tree, or a thing of its form with too many boxes, as trees are written."""
    return "(" + tree[0] + " ".join(written(part) for part in tree[1]) + ")" if isinstance(tree, tuple) else str(tree)


def told(rows):
    desk = Desk()
    return [desk.say(row) for row in rows]


def desk_with(tree, texts):
    desk = Desk()
    desk.say("tree " + show_tree(tree))
    for number, words in enumerate(texts):
        desk.say(" ".join(["text", str(number)] + words))
    return desk


class Asked(unittest.TestCase):
    def refused(self, desk, row, refusal):
        with self.assertRaises(refusal, msg=(row,)) as caught:
            desk.say(row)
        self.assertIs(type(caught.exception), refusal)

    def all_of(self, desk):
        """All that a desk keeps, as its answers tell it."""
        answers = [desk.say("stairs")]
        for number in itertools.count():
            try:
                answers.append(desk.say("words " + str(number)))
            except NoPlace:
                break
        # The widest setting tells the parts of the tree and their order.
        answers += [desk.say(f"box {number} 50000") for number in range(len(answers) - 1)]
        return answers + [desk.say("page 50000")]

    def refused_and_the_same(self, desk, row, refusal):
        stood = self.all_of(desk)
        self.refused(desk, row, refusal)
        self.assertEqual(self.all_of(desk), stood)

    def both(self):
        desk = Desk()
        for row in BOTH_ROWS:
            self.assertEqual(desk.say(row), "ok")
        return desk


class AsItBegins(Asked):
    def test_each_row(self):
        for row, answer in [
            ("tree 0", "ok"), ("tree (|0 1)", "ok"), ("text 0", "ok"), ("text 0 ab", "ok"), ("high 1", "1"),
            ("high 0", "none"), ("high 50000", "1"), ("wide 1", "1"), ("wide 0", "none"), ("wide 50000", "1"),
            ("stairs", "1,1"), ("print 1", " "), ("print 3", "   "), ("print 400", " " * 400), ("box 0 1", "0,0,1,1"),
            ("box 0 50000", "0,0,50000,1"), ("words 0", ""), ("page 1", "0"), ("page 50000", "0"),
        ]:
            self.assertEqual(Desk().say(row), answer, row)

    def test_one_row_behind_the_other(self):
        desk = Desk()
        for again in range(3):
            self.assertEqual([desk.say(row) for row in ("stairs", "words 0", "page 9")], ["1,1", "", "0"])

    def test_refusals(self):
        for row, refusal in [
            ("text 1", NoPlace), ("text 1 ab", NoPlace), ("words 1", NoPlace), ("box 1 1", NoPlace), ("box 0 0", NoRoom),
            ("print 0", NoRoom), ("print 401", NoRoom), ("page 0", NoRoom), ("tree 1", NoTree),
        ]:
            self.refused_and_the_same(Desk(), row, refusal)


class Rows(Asked):
    def test_all_of_them(self):
        desk = self.both()
        for row, answer in [
            ("stairs", "3,3 6,2"),
            ("high 2", "none"), ("high 3", "3"), ("high 5", "3"), ("high 6", "2"), ("high 50000", "2"), ("high 0", "none"),
            ("wide 1", "none"), ("wide 2", "6"), ("wide 3", "3"), ("wide 50000", "3"), ("wide 0", "none"),
            ("print 3", "ae /bf /cdd"), ("print 6", "a be f/c  dd "),
            ("box 0 6", "0,0,3,2"), ("box 1 6", "3,1,6,2"), ("box 2 6", "3,0,6,1"), ("box 1 50000", "3,1,50000,2"),
            ("words 0", "a b c"), ("words 1", "dd"), ("words 2", "e f"),
            ("page 3", "(|0 (-1 2))"), ("page 6", "(|0 (-1 2))"),
        ]:
            self.assertEqual(desk.say(row), answer, row)

    def test_a_new_tree_has_boxes_without_words(self):
        desk = self.both()
        self.assertEqual(desk.say("tree (|0 (-2 1))"), "ok")
        self.assertEqual([desk.say(f"words {number}") for number in range(3)], ["", "", ""])
        self.assertEqual(desk.say("stairs"), "2,2")
        self.assertEqual(desk.say("tree (-0 1 2 3)"), "ok")
        self.assertEqual(desk.say("stairs"), "1,4")
        self.assertEqual(desk.say("words 3"), "")
        self.assertEqual(desk.say("tree 0"), "ok")
        self.assertEqual(desk.say("stairs"), "1,1")
        self.refused(desk, "words 1", NoPlace)

    def test_a_box_gets_words_anew(self):
        desk = self.both()
        self.assertEqual(desk.say("text 1 x yy"), "ok")
        self.assertEqual([desk.say(f"words {number}") for number in range(3)], ["a b c", "x yy", "e f"])
        self.assertEqual(desk.say("text 1"), "ok")
        self.assertEqual([desk.say(f"words {number}") for number in range(3)], ["a b c", "", "e f"])
        self.assertEqual(desk.say("stairs"), "2,3 6,2")

    def test_words_of_numbers_and_brackets_and_first_words(self):
        desk = Desk()
        for words in ("0", "00 01", "50001 -1", "tree 0", "stairs", "( ) | - /", "text 0 text 0", "a/b,c"):
            self.assertEqual(desk.say("text 0 " + words), "ok")
            self.assertEqual(desk.say("words 0"), words)

    def test_printed_with_strokes_within_words(self):
        self.assertEqual(told(["text 0 a/b /", "print 3"])[-1], "a/b//  ")

    def test_forty_words_and_twelve_signs(self):
        desk = Desk()
        words = ["abcdefghijkl"] * 40
        self.assertEqual(desk.say("text 0 " + " ".join(words)), "ok")
        self.assertEqual(desk.say("words 0"), " ".join(words))
        self.assertEqual(desk.say("high 12"), "40")
        self.assertEqual(desk.say("wide 1"), str(40 * 13 - 1))
        self.refused_and_the_same(desk, "text 0 " + " ".join(words + ["a"]), NoTexts)

    def test_all_signs(self):
        desk = Desk()
        for sign in WORD_SIGNS:
            self.assertEqual(desk.say("text 0 a " + sign), "ok")
            self.assertEqual(desk.say("words 0"), "a " + sign)
            self.assertEqual(desk.say("print 1"), "a/" + sign)

    def test_a_page_numbered_anew(self):
        self.assertEqual(told(["tree (|2 1 0)", "page 9"])[-1], "(|0 1 2)")
        self.assertEqual(told(["tree (-2 1 0)", "page 9"])[-1], "(-0 1 2)")
        # By top, then left: the lower box to the left comes last.
        rows = ["tree (|(-3 0) 1 (-2 4))", "text 3 a b c"]
        self.assertEqual(told(rows + ["print 5", "page 5"])[-2:], ["a b  /c    /     ", "(|(-0 4) 1 (-2 3))"])
        self.assertEqual(told(["tree (|(-0 1) (-2 3))", "page 9"])[-1], "(|(-0 2) (-1 3))")

    def test_a_page_may_have_another_tree_than_the_desk(self):
        # Both levels are alike, so the page is cut upright first.
        self.assertEqual(told(["tree (-(|0 1) (|2 3))", "page 2"])[-1], "(|(-0 2) (-1 3))")
        self.assertEqual(told(["tree (-(|0 1) (|2 3))", "page 9"])[-1], "(|(-0 2) (-1 3))")
        self.assertEqual(told(["tree (-(|0 1) (|2 3))", "text 0 ab", "page 9"])[-1], "(-(|0 1) (|2 3))")

    def test_kinds(self):
        desk = self.both()
        for row in ("stairs", "high 3", "high 1", "wide 3", "wide 1", "print 6", "box 0 6", "words 0", "page 6", "text 0"):
            self.assertIs(type(desk.say(row)), str)
        self.assertIs(type(desk.say("tree 0")), str)

    def test_by_name(self):
        self.assertEqual(Desk().say(row="stairs"), "1,1")


class AgainstTheStages(Asked):
    def asked(self, tree, texts, widths):
        desk = desk_with(tree, texts)
        stairs = tree_stairs(tree, texts)
        self.assertEqual(desk.say("stairs"), " ".join(f"{wide},{high}" for wide, high in stairs))
        for number, words in enumerate(texts):
            self.assertEqual(desk.say(f"words {number}"), " ".join(words))
        self.refused(desk, f"words {boxes_of(tree)}", NoPlace)
        for size in (0, 1, stairs[0][0] - 1, stairs[0][0], stairs[-1][1] - 1, stairs[-1][1], 50000):
            high, wide = least_high(tree, texts, size), least_wide(tree, texts, size)
            self.assertEqual(desk.say(f"high {size}"), "none" if high is None else str(high))
            self.assertEqual(desk.say(f"wide {size}"), "none" if wide is None else str(wide))
        for wide in widths(stairs):
            self.in_width(desk, tree, texts, wide)
        for row in ("print {}", "box 0 {}", "page {}"):
            self.refused_and_the_same(desk, row.format(stairs[0][0] - 1), NoRoom)

    def in_width(self, desk, tree, texts, wide):
        high = least_high(tree, texts, wide)
        boxes = setting(tree, texts, wide, high)
        for number, box in enumerate(boxes):
            self.assertEqual(desk.say(f"box {number} {wide}"), "{},{},{},{}".format(*box))
        self.refused(desk, f"box {len(boxes)} {wide}", NoPlace)
        self.assertEqual(desk.say(f"page {wide}"), show_tree(tree_of(make_page(wide, high, boxes))))
        if wide <= 400:
            self.assertEqual(desk.say(f"print {wide}"), "/".join(printed(tree, texts, wide)))
        else:
            self.refused(desk, f"print {wide}", NoRoom)

    def test_trees_of_up_to_24_boxes(self):
        for seed in range(30):
            many = 1 + (seed * 5) % 24
            texts = [words_by_chance(seed * 50 + number, (seed * number) % 7, 1, 5) for number in range(many)]
            self.asked(tree_by_chance(seed, many), texts, lambda stairs: (stairs[0][0], stairs[0][0] + 1, 400, 401, 50000))

    def test_24_boxes_with_40_words_each(self):
        for seed, tree in enumerate(full_trees()[:6]):
            texts = full_texts(seed)
            desk = desk_with(tree, texts)
            stairs = tree_stairs(tree, texts)
            wide, high = stairs[0]
            boxes = setting(tree, texts, wide, high)
            self.assertEqual(desk.say("stairs"), " ".join(f"{wide},{high}" for wide, high in stairs))
            self.assertEqual(desk.say(f"print {wide}"), "/".join(printed(tree, texts, wide)))
            self.assertEqual(desk.say(f"page {wide}"), show_tree(tree_of(make_page(wide, high, boxes))))
            for number in (0, 11, 23):
                self.assertEqual(desk.say(f"box {number} {wide}"), "{},{},{},{}".format(*boxes[number]))
                self.assertEqual(desk.say(f"words {number}"), " ".join(texts[number]))


class TwoAtOnce(Asked):
    def test_they_keep_nothing_in_common(self):
        one, other = Desk(), Desk()
        self.assertEqual(one.say("text 0 ab"), "ok")
        self.assertEqual((one.say("words 0"), other.say("words 0")), ("ab", ""))
        self.assertEqual(other.say("tree (|0 1)"), "ok")
        self.assertEqual((one.say("stairs"), other.say("stairs")), ("2,1", "2,1"))
        self.assertEqual(other.say("text 1 xyz"), "ok")
        self.assertEqual((one.say("stairs"), other.say("stairs")), ("2,1", "4,1"))
        self.refused(one, "words 1", NoPlace)
        self.assertEqual(one.say("tree (|0 1)"), "ok")
        self.assertEqual((one.say("words 1"), other.say("words 1")), ("", "xyz"))
        self.assertEqual(Desk().say("stairs"), "1,1")


class NoRows(Asked):
    def no_row(self, row):
        self.refused(Desk(), row, NoRow)
        self.refused_and_the_same(self.both(), row, NoRow)

    def test_no_texts(self):
        for thing in (
            None, True, False, 0, 7, 1.5, b"stairs", bytearray(b"stairs"), ["stairs"], ("stairs",), {"stairs": 1},
            {"stairs"}, [], (), {}, OwnThing(), OwnThing, str, Desk, Desk(), iter("stairs"),
        ):
            self.no_row(thing)

    def test_other_beginnings(self):
        for row in (
            "", " ", "  ", "a", "ok", "none", "0", "5", "stair", "stairss", "treee 0", "tre 0", "t 0", "texts 0", "word 0",
            "prints 5", "printed 5", "pages 5", "boxes 0 5", "setting 5", "highs 5", "tree,0", "high,5", "(|0 1)", "%", "/",
            "__init__", "say stairs", "keep_tree 0", "~", "\n", "\t", "\u00e9", "\ud800", "\x00", "a" * 4000, " " * 4000,
        ):
            self.no_row(row)

    def test_great_letters(self):
        for name in FIRST_WORDS:
            for other in (name.upper(), name.title(), name[:-1] + name[-1].upper()):
                for behind in ("", " 0", " 0 5", " 5"):
                    self.no_row(other + behind)

    def test_a_blank_ahead(self):
        for row in BOTH_ROWS + ["stairs", "high 5", "wide 5", "print 5", "box 0 5", "words 0", "page 5"]:
            self.no_row(" " + row)
            self.no_row("  " + row)

    def test_words_missing(self):
        for row in ("tree", "text", "high", "wide", "print", "box", "box 0", "words", "page"):
            self.no_row(row)

    def test_words_too_many(self):
        for row in ("stairs", "high 5", "wide 5", "print 5", "box 0 5", "words 0", "page 5"):
            for behind in ("0", "5", "a", "%", "stairs", "", " ", "0 0", " 0", "-1"):
                self.no_row(row + " " + behind)

    def test_two_blanks(self):
        for row in ("high  5", "wide  5", "print  5", "box  0 5", "box 0  5", "words  0", "page  5", "stairs  "):
            self.no_row(row)

    def test_other_signs_for_the_blank(self):
        for sign in "\t\n\r\x0b\x0c\x00\xa0\u2003,/":
            for row in ("tree 0", "text 0", "high 5", "wide 5", "print 5", "words 0", "page 5", "box 0 5"):
                self.no_row(row.replace(" ", sign))
            self.no_row("stairs" + sign)
            self.no_row(sign + "stairs")

    def test_ahead_of_no_number_and_all_else(self):
        for row in (
            "high x y", "high 01 5", "wide -1 2", "print 401 0", "print x y", "box 99", "box x", "box 99 0 1", "box x y z",
            "words 99 1", "words x y", "page 0 0", "page x y", "stairs x", "trees (", "texts 0 %",
        ):
            self.no_row(row)


class NoNumbers(Asked):
    def test_each_row(self):
        for number in NO_NUMBERS:
            for row in (
                f"text {number}", f"text {number} a", f"high {number}", f"wide {number}", f"print {number}",
                f"words {number}", f"page {number}", f"box {number} 5", f"box 0 {number}", f"box {number} {number}",
            ):
                self.refused(Desk(), row, NoNumber)

    def test_nothing_is_changed(self):
        desk = self.both()
        for number in NO_NUMBERS:
            for row in (f"text {number}", f"text {number} a", f"high {number}", f"box {number} 5", f"box 0 {number}"):
                self.refused(desk, row, NoNumber)
            self.refused_and_the_same(desk, f"text {number} x y z", NoNumber)

    def test_ahead_of_all_else(self):
        desk = self.both()
        for row in (
            "text 03 %", "text x " + "a" * 13, "text 50001 ab", "text  " + " ".join(["a"] * 41), "box 99 x", "box 99 050",
            "box 3 50001", "box x 0", "box 00 1", "print 0400", "print 100000", "print -1",
        ):
            self.refused_and_the_same(desk, row, NoNumber)

    def test_a_word_without_signs(self):
        for row in (
            "high ", "wide ", "print ", "words ", "page ", "text ", "text  ", "text  0", "text  ab", "box 0 ", "box  0", "box  ",
        ):
            self.refused_and_the_same(Desk(), row, NoNumber)

    def test_nought_and_fifty_thousand(self):
        desk = Desk()
        for number in ("0", "1", "9", "10", "100", "1000", "9999", "10000", "20030", "49999", "50000"):
            self.assertEqual(desk.say("high " + number), "none" if number == "0" else "1")
            self.assertEqual(desk.say("wide " + number), "none" if number == "0" else "1")
        for number in range(0, 50001, 1250):
            if number:
                self.assertEqual(desk.say(f"box 0 {number}"), f"0,0,{number},1")
        self.assertEqual(desk.say("box 0 50000"), "0,0,50000,1")


class NoTreesToldToIt(Asked):
    def test_no_tree(self):
        desk = self.both()
        for text in NO_TREES:
            self.refused(Desk(), "tree " + text, NoTree)
            self.refused_and_the_same(desk, "tree " + text, NoTree)

    def test_blanks(self):
        desk = self.both()
        for row in ("tree ", "tree  ", "tree  0", "tree 0 ", "tree (|0  1)", "tree  (|0 1)", "tree (|0 1) "):
            self.refused_and_the_same(desk, row, NoTree)

    def test_any_signs(self):
        for number in list(range(0x300)) + [0x660, 0x2003, 0xff10, 0xd800, 0x1f600]:
            if chr(number) != "0":
                self.refused(Desk(), "tree " + chr(number), NoTree)
            if chr(number) not in "|-":
                self.refused(Desk(), f"tree ({chr(number)}0 1)", NoTree)

    def test_as_many_boxes_as_can_be(self):
        for tree in (broad_tree("|", 24), broad_tree("-", 24), deep_tree(24)):
            desk = Desk()
            self.assertEqual(desk.say("tree " + show_tree(tree)), "ok")
            self.assertEqual(desk.say("words 23"), "")
            self.refused(desk, "words 24", NoPlace)
        desk = self.both()
        for tree in (broad_tree("|", 25), broad_tree("-", 25), deep_tree(25)):
            self.refused_and_the_same(desk, "tree " + written(tree), NoTree)


class NoBoxes(Asked):
    def test_boxes_that_are_not_there(self):
        desk = self.both()
        for number in (3, 4, 24, 99, 50000):
            for row in ("text {}", "text {} a", "text {} a b", "words {}", "box {} 6", "box {} 50000"):
                self.refused_and_the_same(desk, row.format(number), NoPlace)

    def test_ahead_of_no_room(self):
        desk = self.both()
        for wide in (0, 1, 2):
            self.refused_and_the_same(desk, f"box 3 {wide}", NoPlace)
            for number in range(3):
                self.refused_and_the_same(desk, f"box {number} {wide}", NoRoom)

    def test_ahead_of_no_texts(self):
        desk = self.both()
        for words in ("%", "a" * 13, "", "a  b", " ".join(["a"] * 41)):
            self.refused_and_the_same(desk, "text 3 " + words, NoPlace)

    def test_behind_a_smaller_tree(self):
        desk = self.both()
        desk.say("tree (|0 1)")
        self.refused_and_the_same(desk, "words 2", NoPlace)
        self.refused_and_the_same(desk, "text 2 a", NoPlace)
        self.assertEqual(desk.say("text 1 a"), "ok")


class NoTextsToldToIt(Asked):
    def test_words_that_are_none(self):
        desk = self.both()
        for word in [thing for thing in no_words() if isinstance(thing, str) and " " not in thing]:
            for words in ([word], [word, "ab"], ["ab", word], ["ab", word, "cd"], ["ab"] * 39 + [word]):
                for number in range(3):
                    self.refused(desk, " ".join(["text", str(number)] + words), NoTexts)
            self.refused_and_the_same(desk, "text 1 ab " + word, NoTexts)

    def test_blanks(self):
        desk = self.both()
        for row in ("text 0 ", "text 0  ", "text 0  a", "text 0 a ", "text 0 a  b", "text 0 a b "):
            self.refused_and_the_same(desk, row, NoTexts)

    def test_too_many(self):
        desk = self.both()
        for many in (41, 42, 200, 1990):
            for number in range(3):
                self.refused_and_the_same(desk, f"text {number} " + " ".join(["a"] * many), NoTexts)
        self.assertEqual(desk.say("text 1 " + " ".join(["a"] * 40)), "ok")

    def test_each_sign_told_apart(self):
        desk = Desk()
        for number in list(range(0x300)) + [0x2003, 0xff10, 0xd800, 0x1f600]:
            if chr(number) in WORD_SIGNS:
                self.assertEqual(desk.say("text 0 a" + chr(number)), "ok")
            else:
                stood = desk.say("words 0")
                self.refused(desk, "text 0 a" + chr(number), NoTexts)
                self.assertEqual(desk.say("words 0"), stood)


class NoRooms(Asked):
    def test_widths_in_which_there_is_no_height(self):
        desk = self.both()
        for wide in (0, 1, 2):
            self.assertEqual(desk.say(f"high {wide}"), "none")
            for row in ("print {}", "box 0 {}", "box 2 {}", "page {}"):
                self.refused_and_the_same(desk, row.format(wide), NoRoom)

    def test_printed_widths(self):
        desk = self.both()
        self.assertEqual(len(desk.say("print 400")), 801)
        for wide in (0, 401, 402, 4000, 50000):
            self.refused_and_the_same(desk, f"print {wide}", NoRoom)


class AnyTexts(Asked):
    def test_any_signs(self):
        signs = "tre 0(|-)15,/%~\n\t\x00\u00e9\u0661\ud800\U0001f600"
        desk = self.both()
        for number in range(4000):
            row = "".join(signs[(number * (k + 3) * 7 + k * k) % len(signs)] for k in range(number % 23))
            for text in (row, "text 0 " + row, "tree " + row, "high " + row, "box 0 " + row, "print " + row):
                try:
                    self.assertIs(type(desk.say(text)), str)
                except PartError:
                    pass

    def test_each_row_with_one_sign_put_in(self):
        rows = BOTH_ROWS + ["stairs", "high 5", "wide 5", "print 5", "box 0 5", "words 0", "page 5"]
        for row in rows:
            for place in range(len(row) + 1):
                for sign in "\n\x00\u0661\ud800%":
                    desk = self.both()
                    stood = self.all_of(desk)
                    with self.assertRaises(PartError, msg=(row, place, sign)):
                        desk.say(row[:place] + sign + row[place:])
                    self.assertEqual(self.all_of(desk), stood)

    def test_long_texts(self):
        desk = self.both()
        for row in ("(" * 4000, "tree " + "(|" * 1990, "text 0 " + "a" * 3990, "high " + "1" * 3990, "text 0" + " a" * 1990):
            stood = self.all_of(desk)
            with self.assertRaises(PartError):
                desk.say(row)
            self.assertEqual(self.all_of(desk), stood)


if __name__ == "__main__":
    unittest.main()
