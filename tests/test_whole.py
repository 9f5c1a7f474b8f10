import ast
import copy
import inspect
import pathlib
import unittest

from pagepart import cutting, desk, errors, lines, pages, pictures, pressing
from pagepart import printing, running, setting, stairs, trees, walls

from samples import sorted_page
from ways import ByAllWays

# Drawn once and written down, so that the same trees grow each time on each machine.
TABLE = (
    "3365859083088958398685840396671732390036723238836129137370612954636617814669837300163020935535906946"
    "6109408018186199680196738515054903173520837349186485715751950924002407861086653326923576425533075843"
    "4506380302490046753894124237670400496264766251597076680139313854845561561093524457658906870261046466"
    "4836476324977187150240810246257940148212081800436622603056015761217614167056295691913222136942545777"
    "4906472528524298975686012584388357900606391637718045035046339306640809998984488919717491725189264576"
    "1826595974504345020169472712941256087961471443862322888313890635418580955386009891197911345584072335"
    "0440792027421263806105218987101343665324341610399173442819974436431005151319946131881277438675271238"
    "9396719962986855491067511228225639202785477441713877892800229030623717232475701373786978626567436027"
    "0897138823296966087045222680600051072853055965376699493206144071927534694345869553114065085144487216"
    "6150371510775788794450269460302964119905028722640061697721723994435205747783830262175078942104677106"
    "7186804574177099065546190807066363138577908154946801655746424214006910382679537362705606346851291080"
    "7835671683066514202329356635523500412287051133170774845769905103452113905904257146568913721484790565"
    "1257655566397173101978066174073857411097899635958622655919015020278768197272554908825928909637292865"
    "6118621976340928901352514051520616007399095424626406564729870728343443563869547717888620442884123892"
    "0605732792280727834072403537920168330080196813118814549874521853358972257329983388899591368145300783"
)

PACKAGE = pathlib.Path(__file__).resolve().parent.parent / "pagepart"

INTERFACE = {
    pages: {"is_whole": ["thing"], "make_page": ["wide", "high", "boxes"], "box_at": ["page", "x", "y"]},
    pictures: {"picture": ["page"], "read_picture": ["rows"]},
    walls: {"uprights": ["page"], "levels": ["page"], "sides": ["page", "box"], "beside": ["page"], "beneath": ["page"]},
    trees: {"is_tree": ["thing"], "boxes_of": ["tree"], "show_tree": ["tree"], "read_tree": ["text"]},
    cutting: {"tree_of": ["page"], "stuck_piece": ["page"], "is_stuck": ["page", "piece"]},
    pressing: {
        "least_places": ["page", "needs"], "pressed": ["page", "needs"],
        "chain_across": ["page", "needs"], "chain_down": ["page", "needs"],
    },
    lines: {"lines": ["words", "wide"], "text_stairs": ["words"]},
    stairs: {
        "tree_stairs": ["tree", "texts"], "least_high": ["tree", "texts", "wide"], "least_wide": ["tree", "texts", "high"],
    },
    setting: {"setting": ["tree", "texts", "wide", "high"]},
    printing: {"printed": ["tree", "texts", "wide"], "words_in": ["rows", "boxes"]},
    running: {"poured": ["words", "rooms"], "least_rooms": ["words", "many", "wide"]},
    desk: {"Desk": []},
}


class Drawn:
    """Numbers from the table, from one of its places on."""

    def __init__(self, start):
        self.place = (start * 37) % len(TABLE)

    def below(self, many):
        figures = [TABLE[(self.place + k) % len(TABLE)] for k in range(3)]
        self.place += 3
        return int("".join(figures)) % many

    def order(self, many):
        numbers = list(range(many))
        return [numbers.pop(self.below(len(numbers))) for number in range(many)]


def tree_drawn(drawn, many):
    return part_drawn(drawn, "|-"[drawn.below(2)], drawn.order(many))


def part_drawn(drawn, kind, numbers):
    if len(numbers) == 1:
        return numbers[0]
    first = 1 + drawn.below(len(numbers) - 1)
    ends = sorted({0, first, len(numbers)} | {1 + drawn.below(len(numbers) - 1) for cut in range(drawn.below(3))})
    other = "-" if kind == "|" else "|"
    return (kind, tuple(part_drawn(drawn, other, numbers[one:next_one]) for one, next_one in zip(ends, ends[1:])))


def word_drawn(drawn, most):
    return "".join(chr(38 + drawn.below(89)) for sign in range(1 + drawn.below(most)))


def texts_drawn(drawn, many, most_words, most_signs):
    return [
        [word_drawn(drawn, most_signs) for word in range(drawn.below(most_words + 1))] for number in range(many)
    ]


def page_drawn(drawn, many):
    """A page parted by halves and, here and there, into wheels."""
    wide, high = 9 + drawn.below(20), 9 + drawn.below(20)
    boxes = [(0, 0, wide, high)]
    while len(boxes) + 4 <= many:
        left, top, right, below = boxes.pop(drawn.below(len(boxes)))
        if right - left >= 3 and below - top >= 3 and drawn.below(3) == 0:
            x, y = left + 1 + drawn.below(right - left - 2), top + 1 + drawn.below(below - top - 2)
            boxes += [
                (left, top, x + 1, y), (x + 1, top, right, y + 1), (x, y + 1, right, below), (left, y, x, below),
                (x, y, x + 1, y + 1),
            ]
        elif right - left >= 2:
            x = left + 1 + drawn.below(right - left - 1)
            boxes += [(left, top, x, below), (x, top, right, below)]
        elif below - top >= 2:
            y = top + 1 + drawn.below(below - top - 1)
            boxes += [(left, top, right, y), (left, y, right, below)]
        else:
            boxes += [(left, top, right, below)]
            many -= 1
    return sorted_page(wide, high, boxes)


def grown():
    """Trees of 1 to 24 boxes with texts for them."""
    for start in range(72):
        drawn = Drawn(start)
        many = 1 + start % 24
        yield tree_drawn(drawn, many), texts_drawn(drawn, many, (0, 3, 8)[start // 24], 2 + start % 11)


def widths(tree, texts):
    told = stairs.tree_stairs(tree, texts)
    return sorted({told[0][0], told[0][0] + 1, told[len(told) // 2][0], told[-1][0], 400, 50000})


class ForEveryTree(unittest.TestCase):
    def test_the_least_height_is_that_of_a_page_in_which_all_texts_stand(self):
        for tree, texts in grown():
            for wide in widths(tree, texts):
                high = stairs.least_high(tree, texts, wide)
                if high is None:
                    self.assertLess(wide, stairs.tree_stairs(tree, texts)[0][0])
                    continue
                boxes = setting.setting(tree, texts, wide, high)
                self.assertEqual(len(pages.make_page(wide, high, boxes)[2]), len(texts))
                for (left, top, right, below), words in zip(boxes, texts):
                    self.assertLessEqual(len(lines.lines(words, right - left)), below - top)
                with self.assertRaises(errors.NoRoom):
                    setting.setting(tree, texts, wide, high - 1)

    def test_none_lower_holds_them_however_the_sizes_are_chosen(self):
        for start in range(120):
            drawn = Drawn(start)
            many = 1 + start % 5
            tree = tree_drawn(drawn, many)
            texts = texts_drawn(drawn, many, 3, 3)
            ways = ByAllWays(texts)
            for wide in range(0, 12):
                high = stairs.least_high(tree, texts, wide)
                if high is None:
                    self.assertFalse(any(ways.has_page(tree, wide, other) for other in range(10)))
                elif high < 12:
                    self.assertTrue(ways.has_page(tree, wide, high))
                    self.assertFalse(any(ways.has_page(tree, wide, other) for other in range(high)))

    def test_what_is_printed_is_read_back_word_by_word(self):
        for tree, texts in grown():
            for wide in widths(tree, texts):
                high = stairs.least_high(tree, texts, wide)
                if high is None or wide > 400:
                    with self.assertRaises(errors.NoRoom):
                        printing.printed(tree, texts, wide)
                    continue
                rows = printing.printed(tree, texts, wide)
                self.assertEqual([len(row) for row in rows], [wide] * high)
                boxes = setting.setting(tree, texts, wide, high)
                self.assertEqual(printing.words_in(rows, boxes), texts)
                taken = sum(len(word) for words in texts for word in words)
                self.assertEqual(sum(len(row.replace(" ", "")) for row in rows), taken)

    def test_the_page_of_a_setting_has_a_tree_by_which_the_height_is_no_greater(self):
        for tree, texts in grown():
            for wide in widths(tree, texts):
                high = stairs.least_high(tree, texts, wide)
                if high is None:
                    continue
                boxes = setting.setting(tree, texts, wide, high)
                page = pages.make_page(wide, high, boxes)
                own = cutting.tree_of(page)
                self.assertTrue(trees.is_tree(own))
                self.assertIs(cutting.stuck_piece(page), None)
                anew = [texts[boxes.index(box)] for box in page[2]]
                self.assertLessEqual(stairs.least_high(own, anew, wide), high)

    def test_trees_are_written_and_read(self):
        for tree, texts in grown():
            self.assertEqual(trees.read_tree(trees.show_tree(tree)), tree)
            self.assertEqual(trees.boxes_of(tree), len(texts))

    def test_a_desk_tells_the_same(self):
        for tree, texts in list(grown())[::5]:
            one = desk.Desk()
            self.assertEqual(one.say("tree " + trees.show_tree(tree)), "ok")
            for number, words in enumerate(texts):
                self.assertEqual(one.say(" ".join(["text", str(number), *words])), "ok")
            for wide in widths(tree, texts):
                high = stairs.least_high(tree, texts, wide)
                self.assertEqual(one.say(f"high {wide}"), "none" if high is None else str(high))
                if high is not None and wide <= 400:
                    self.assertEqual(one.say(f"print {wide}"), "/".join(printing.printed(tree, texts, wide)))


class ForEveryPage(unittest.TestCase):
    def drawn_pages(self):
        return [page_drawn(Drawn(start), 1 + start % 24) for start in range(96)]

    def test_its_tree_or_a_stuck_piece(self):
        found = []
        for page in self.drawn_pages():
            self.assertEqual(pages.make_page(page[0], page[1], list(page[2])), page)
            tree, piece = cutting.tree_of(page), cutting.stuck_piece(page)
            if piece is None:
                self.assertTrue(trees.is_tree(tree))
                self.assertEqual(trees.boxes_of(tree), len(page[2]))
            else:
                self.assertEqual(tree, "stuck")
                self.assertTrue(cutting.is_stuck(page, piece))
            found.append(piece is None)
        self.assertEqual(sorted(set(found)), [False, True])

    def test_the_pressed_page_is_a_page_and_chains_show_that_none_is_less(self):
        for start, page in enumerate(self.drawn_pages()):
            drawn = Drawn(start + 500)
            needs = [(1 + drawn.below(60), 1 + drawn.below(60)) for box in page[2]]
            upright, level = pressing.least_places(page, needs)
            boxes = pressing.pressed(page, needs)
            new = pages.make_page(upright[-1], level[-1], boxes)
            self.assertEqual(len(new[2]), len(page[2]))
            for (left, top, right, below), (wide, high) in zip(boxes, needs):
                self.assertTrue(right - left >= wide and below - top >= high)
            across, down = pressing.chain_across(page, needs), pressing.chain_down(page, needs)
            self.assertEqual(sum(needs[number][0] for number in across), upright[-1])
            self.assertEqual(sum(needs[number][1] for number in down), level[-1])
            self.assertEqual([boxes[number][0] for number in across], [0] + [boxes[number][2] for number in across[:-1]])
            self.assertEqual([boxes[number][1] for number in down], [0] + [boxes[number][3] for number in down[:-1]])


def lists_in(thing):
    """All lists in a thing, it itself among them."""
    if isinstance(thing, list):
        return [thing] + [within for part in thing for within in lists_in(part)]
    if isinstance(thing, tuple):
        return [within for part in thing for within in lists_in(part)]
    return []


def askings():
    """Every function with things to hand in."""
    page = pictures.read_picture(["aab", "cdb", "cee"])
    whole = pictures.read_picture(["abb", "acc"])
    words = ["the", "quick", "brown", "fox"]
    found = [
        (pages.make_page, [3, 2, [(1, 0, 3, 1), (1, 1, 3, 2), (0, 0, 1, 2)]]), (pages.is_whole, [[3]]),
        (pages.box_at, [page, 1, 1]), (pictures.picture, [page]), (pictures.read_picture, [["abb", "acc"]]),
        (walls.uprights, [page]), (walls.levels, [page]), (walls.sides, [page, 2]), (walls.beside, [page]),
        (walls.beneath, [page]), (walls.uprights, [(1, 1, ((0, 0, 1, 1),))]), (cutting.tree_of, [whole]),
        (cutting.stuck_piece, [page]), (cutting.is_stuck, [page, (0, 0, 3, 3)]), (trees.is_tree, [[0]]),
        (trees.read_tree, ["(|0 1)"]), (lines.lines, [words, 9]), (lines.lines, [words, 5]), (lines.lines, [[], 5]),
        (lines.text_stairs, [words]), (lines.text_stairs, [[]]), (printing.words_in, [["ab", "c "], [(0, 0, 2, 2)] * 3]),
        (printing.words_in, [["  "], [(0, 0, 1, 1), (1, 0, 2, 1)]]), (printing.words_in, [[], []]),
        (running.poured, [words, [(9, 1), (2, 2), (5, 1), (1, 1), (2, 2)]]), (running.poured, [words, []]),
        (running.poured, [[], [(1, 1), (1, 1)]]), (running.least_rooms, [words, 2, 9]),
    ]
    needs = [(10, 1), (2, 20), (3, 30), (4, 4), (50, 5)]
    for ask in (pressing.least_places, pressing.pressed, pressing.chain_across, pressing.chain_down):
        found.append((ask, [page, needs]))
    for tree in (0, ("|", (0, ("-", (2, 1)))), ("-", (1, 0))):
        for text in ([], ["ab", "cde", "f"]):
            texts = [list(text) for number in range(trees.boxes_of(tree))]
            found += [
                (stairs.tree_stairs, [tree, texts]), (stairs.least_high, [tree, texts, 20]),
                (stairs.least_wide, [tree, texts, 20]), (setting.setting, [tree, texts, 20, 20]),
                (printing.printed, [tree, texts, 20]),
            ]
    # Each asking has lists of its own, whatever another test does to those of one before.
    return [(ask, copy.deepcopy(things)) for ask, things in found]


def spoiled(thing):
    """Changes all lists in a thing."""
    for one in lists_in(thing):
        one.append("changed")
        one.reverse()


class WhatIsHandedInAndTold(unittest.TestCase):
    def test_nothing_that_is_handed_in_is_changed(self):
        for ask, things in askings():
            stood = copy.deepcopy(things)
            ask(*things)
            self.assertEqual(things, stood, ask)

    def test_nothing_that_is_handed_in_is_kept(self):
        for ask, things in askings():
            told = ask(*things)
            stood = copy.deepcopy(told)
            again = copy.deepcopy(things)
            spoiled(things)
            self.assertEqual(told, stood, ask)
            self.assertEqual(ask(*again), stood, ask)

    def test_no_two_lists_are_one(self):
        for ask, things in askings():
            told = [ask(*things), ask(*things)]
            lists = lists_in(told[0]) + lists_in(told[1])
            handed = lists_in(tuple(things))
            self.assertEqual(len({id(one) for one in lists}), len(lists), ask)
            self.assertFalse({id(one) for one in lists} & {id(one) for one in handed}, ask)

    def test_what_is_told_is_the_askers_own(self):
        for ask, things in askings():
            told = ask(*things)
            stood = copy.deepcopy(told)
            spoiled(told)
            self.assertEqual(ask(*things), stood, ask)

    def test_every_function_is_asked(self):
        asked = {(ask.__module__, ask.__name__) for ask, things in askings()}
        for module, names in INTERFACE.items():
            for name in names:
                if name not in ("Desk", "boxes_of", "show_tree"):
                    self.assertIn((module.__name__, name), asked)


class Interface(unittest.TestCase):
    def test_names_and_arguments(self):
        for module, names in INTERFACE.items():
            for name, arguments in names.items():
                self.assertEqual(list(inspect.signature(getattr(module, name)).parameters), arguments, name)
        self.assertEqual(list(inspect.signature(desk.Desk().say).parameters), ["row"])

    def test_no_clock_no_chance_no_files(self):
        for path in sorted(PACKAGE.glob("*.py")):
            for node in ast.walk(ast.parse(path.read_text(encoding="utf-8"))):
                self.assertNotIsInstance(node, ast.Import, path.name)
                if isinstance(node, ast.ImportFrom):
                    self.assertTrue(node.module.startswith("pagepart."), (path.name, node.module))
                if isinstance(node, ast.Name):
                    self.assertNotIn(node.id, ("open", "input", "print", "exec", "eval", "id", "hash"), path.name)


if __name__ == "__main__":
    unittest.main()
