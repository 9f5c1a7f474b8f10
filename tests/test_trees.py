import itertools
import unittest

from pagepart.errors import NoTree
from pagepart.trees import boxes_of, is_tree, read_tree, show_tree

from samples import all_trees, broad_tree, deep_tree, no_whole_numbers, tree_by_chance

SHOWN = [
    (0, 1, "0"),
    (("|", (0, 1)), 2, "(|0 1)"),
    (("|", (1, 0)), 2, "(|1 0)"),
    (("-", (0, 1)), 2, "(-0 1)"),
    (("|", (0, ("-", (2, 1)))), 3, "(|0 (-2 1))"),
    (("-", (("|", (0, 1)), ("|", (2, 3)))), 4, "(-(|0 1) (|2 3))"),
    (("|", (("-", (("|", (4, 0)), 1)), 2, ("-", (3, 5)))), 6, "(|(-(|4 0) 1) 2 (-3 5))"),
    (broad_tree("-", 12), 12, "(-0 1 2 3 4 5 6 7 8 9 10 11)"),
    (deep_tree(5), 5, "(-0 (|1 (-2 (|3 4))))"),
]

GREAT = [broad_tree("|", 24), broad_tree("-", 24), deep_tree(24), deep_tree(23)]
GREAT += [tree_by_chance(seed, 24) for seed in range(40)]
MIDDLING = [tree_by_chance(seed, many) for seed in range(5) for many in range(1, 24)]
SMALL = [tree for many in range(1, 5) for tree in all_trees(many)]


class NeverEqual:
    def __eq__(self, other):
        raise ZeroDivisionError("it is not to be compared")

    __hash__ = None


class OwnText(str):
    pass


def spelt(tree):
    """The text of a tree, sign by sign from a list of what is still to be written."""
    text = ""
    ahead = [tree]
    while ahead:
        thing = ahead.pop()
        if isinstance(thing, tuple):
            ahead.append(")")
            for part in reversed(thing[1]):
                ahead.extend([part, " "])
            ahead.pop()
            ahead.append("(" + thing[0])
        else:
            text += str(thing)
    return text


def put_for_each(tree, thing):
    """The tree with the thing in the place of the whole, or of each part of it in turn."""
    found = [thing]
    if isinstance(tree, tuple):
        kind, parts = tree
        for number, part in enumerate(parts):
            for changed in put_for_each(part, thing):
                found.append((kind, parts[:number] + (changed,) + parts[number + 1:]))
    return found


def figures(word):
    return word.strip("()|-")


def within(thing, deep, put):
    for step in range(deep):
        thing = put(thing)
    return thing


def doubled(deep, leaf):
    """A thing that lies twice in each one around it: small to keep, but endless to walk."""
    thing = leaf
    for step in range(deep):
        thing = ("|" if step % 2 else "-", (thing, thing))
    return thing


def chained(deep, leaf):
    """A number and the next thing, so deep: of a tree's form, but with far too many boxes."""
    thing = leaf
    for step in range(deep):
        thing = ("|" if step % 2 else "-", (step, thing))
    return thing


def no_trees():
    return other_kinds() + wrong_forms() + wrong_numbers() + deep_things()


def other_kinds():
    endless = []
    endless.append(endless)
    things = no_whole_numbers() + [
        NeverEqual(), "0", "|", "-", "stuck", "(|0 1)", OwnText("0"), [0], (0,), {0: 1}, {"|": (0, 1)}, endless,
    ]
    for_kinds = [thing for thing in things if not (isinstance(thing, str) and thing in ("|", "-"))]
    return (
        things + [(0, 1)] + [("|", thing) for thing in things] + [(thing, (0, 1)) for thing in for_kinds]
        + [("|", (0, thing)) for thing in things] + [("-", (thing, 0)) for thing in things]
    )


def wrong_forms():
    return [
        # Fewer than two parts.
        ("|", ()), ("-", ()), ("|", (0,)), ("-", (0,)), ("|", (("-", (0, 1)),)), ("|", (0, ("-", (1,)))),
        ("|", (0, ("-", ()))),
        # Another kind.
        ("", (0, 1)), ("||", (0, 1)), ("|-", (0, 1)), ("/", (0, 1)), ("+", (0, 1)), (" ", (0, 1)), ("| ", (0, 1)),
        (b"|", (0, 1)), (0, (0, 1)), (None, (0, 1)), (True, (0, 1)), (("|",), (0, 1)), ("|", (0, ("x", (1, 2)))),
        ("_", (0, 1)), ("\u2502", (0, 1)), ("\u2013", (0, 1)),
        # A part of the tree's own kind.
        ("|", (0, ("|", (1, 2)))), ("|", (("|", (0, 1)), 2)), ("-", (0, ("-", (1, 2)))), ("-", (("-", (0, 1)), 2)),
        ("|", (0, ("-", (1, ("-", (2, 3)))))), ("|", (0, 1, ("|", (2, 3)), 4)),
        # A list for a tuple.
        ["|", (0, 1)], ("|", [0, 1]), ["|", [0, 1]], ("|", (0, ["-", (1, 2)])), ("|", (0, ("-", [1, 2]))), [0],
        # Too few or too many in a tuple.
        (), ("|",), ("|", 0), ("|", 0, 1), ("|", (0, 1), 2), ("|", (0, 1), ()), ((0, 1), "|"), ("|", "01"),
        ("|", (0, ())), ("|", (0, ("-",))), ("|", (0, ("-", (1, 2), 3))), ((("|", (0, 1)),)), ("|", ((0, 1), 2)),
        ("|", {0: True, 1: True}), ("|", range(2)), ("|", "ab"), ("|", ("0", "1")),
    ]


def wrong_numbers():
    return [
        # Twice.
        ("|", (0, 0)), ("|", (0, 1, 1)), ("|", (0, ("-", (1, 0)))), ("|", (("-", (0, 1)), ("-", (0, 1)))),
        # Missing, or too great.
        1, 2, 23, 24, 50000, 10 ** 400, ("|", (1, 2)), ("|", (0, 2)), ("|", (0, ("-", (1, 3)))), ("-", (1, 24)),
        ("-", (0, 10 ** 30)), ("|", tuple(range(1, 25))), ("|", tuple(range(23)) + (24,)),
        # Below 0.
        -1, -(10 ** 400), ("|", (0, -1)), ("|", (-1, 0)), ("|", (-1, -2)), ("|", (-1, 0, 1)),
        # Too many.
        broad_tree("|", 25), broad_tree("-", 26), broad_tree("|", 2000), deep_tree(25), deep_tree(26), deep_tree(100),
        ("|", (("-", tuple(range(12))), ("-", tuple(range(12, 25))))), tree_by_chance(1, 25), tree_by_chance(2, 40),
        # Truths.
        True, False, ("|", (False, True)), ("|", (0, True)), ("|", (False, 1)), ("-", (0, 1, True)),
    ]


def deep_things():
    puts = [
        lambda thing: [thing], lambda thing: (thing,), lambda thing: {0: thing}, lambda thing: ("|", (0, thing)),
        lambda thing: ("|", thing), lambda thing: (thing, (0, 1)), lambda thing: ("-", (thing,)),
        lambda thing: ("|", (thing, thing)), lambda thing: ["|", [0, thing]], lambda thing: (thing, thing),
    ]
    leaves = [0, None, "|", (), [], ("|", (0, 1))]
    things = [within(leaf, deep, put) for put in puts for leaf in leaves for deep in (2, 24, 60, 118)]
    things += [doubled(deep, leaf) for leaf in (0, None, ("x", (1, 2))) for deep in (2, 5, 24, 59)]
    things += [chained(deep, leaf) for leaf in (99, None, "") for deep in (2, 24, 25, 59)]
    return things + [("|", (0, thing)) for thing in things]


class TreesToldApart(unittest.TestCase):
    def test_trees(self):
        for tree in [shown[0] for shown in SHOWN] + GREAT + MIDDLING + SMALL:
            self.assertIs(is_tree(tree), True, tree)

    def test_how_many_small_ones(self):
        self.assertEqual([len(set(all_trees(many))) for many in (1, 2, 3, 4)], [1, 4, 36, 528])

    def test_no_trees(self):
        for thing in no_trees():
            self.assertIs(is_tree(thing), False)

    def test_a_wrong_thing_for_each_part(self):
        wrong = [True, -1, 24, "0", None, (), [0], ("|",), ("|", (7, 8, 7)), ("x", (7, 8))]
        for tree in all_trees(3) + [shown[0] for shown in SHOWN] + GREAT[:6]:
            for thing in wrong:
                for changed in put_for_each(tree, thing):
                    self.assertIs(is_tree(changed), False, changed)

    def test_every_small_thing(self):
        # All things of a few forms and numbers; the trees among them are known.
        leaves = [0, 1, 2, True, "0"]
        pairs = [(kind, parts) for kind in ("|", "-", "+") for parts in itertools.product(leaves, repeat=2)]
        trees = set(map(repr, SMALL))
        for kind in ("|", "-", "+"):
            for parts in itertools.product(leaves + pairs, repeat=2):
                thing = (kind, parts)
                self.assertIs(is_tree(thing), repr(thing) in trees, thing)
            for parts in itertools.product(leaves, repeat=3):
                thing = (kind, parts)
                self.assertIs(is_tree(thing), repr(thing) in trees, thing)

    def test_things_are_left_as_they_were(self):
        thing = ("|", [0, ["-", [1, 2]]])
        is_tree(thing)
        self.assertEqual(thing, ("|", [0, ["-", [1, 2]]]))

    def test_by_name(self):
        self.assertIs(is_tree(thing=0), True)


class BoxesCounted(unittest.TestCase):
    def test_trees(self):
        for tree, many, text in SHOWN:
            self.assertEqual(boxes_of(tree), many)
        for many in range(1, 5):
            for tree in all_trees(many):
                self.assertEqual(boxes_of(tree), many)
        for tree in GREAT + MIDDLING:
            self.assertEqual(boxes_of(tree), len(spelt(tree).split(" ")))
        self.assertEqual(boxes_of(broad_tree("|", 24)), 24)
        self.assertEqual(boxes_of(deep_tree(24)), 24)
        self.assertEqual(boxes_of(deep_tree(23)), 23)

    def test_kind(self):
        self.assertIs(type(boxes_of(0)), int)

    def test_no_trees_are_refused(self):
        for thing in no_trees():
            with self.assertRaises(NoTree) as caught:
                boxes_of(thing)
            self.assertIs(type(caught.exception), NoTree)

    def test_by_name(self):
        self.assertEqual(boxes_of(tree=("|", (1, 0))), 2)


class TreesWritten(unittest.TestCase):
    def test_trees(self):
        for tree, many, text in SHOWN:
            self.assertEqual(show_tree(tree), text)
        self.assertEqual(show_tree(broad_tree("|", 24)), "(|" + " ".join([str(k) for k in range(24)]) + ")")

    def test_put_together_in_another_way(self):
        for tree in SMALL + GREAT + MIDDLING:
            self.assertEqual(show_tree(tree), spelt(tree))

    def test_kind(self):
        self.assertIs(type(show_tree(0)), str)
        self.assertIs(type(show_tree(("|", (0, 1)))), str)

    def test_no_trees_are_refused(self):
        for thing in no_trees():
            with self.assertRaises(NoTree) as caught:
                show_tree(thing)
            self.assertIs(type(caught.exception), NoTree)

    def test_by_name(self):
        self.assertEqual(show_tree(tree=("|", (1, 0))), "(|1 0)")


class TreesRead(unittest.TestCase):
    def refused(self, text):
        with self.assertRaises(NoTree, msg=repr(text)[:200]) as caught:
            read_tree(text)
        self.assertIs(type(caught.exception), NoTree)

    def test_trees(self):
        for tree, many, text in SHOWN:
            self.assertEqual(read_tree(text), tree)

    def test_every_tree_is_read_back(self):
        for tree in SMALL + GREAT + MIDDLING:
            read = read_tree(show_tree(tree))
            self.assertEqual(read, tree)
            self.assertEqual(repr(read), repr(tree))

    def test_kinds(self):
        self.assertIs(type(read_tree("0")), int)
        tree = read_tree("(|0 1)")
        self.assertIs(type(tree), tuple)
        self.assertIs(type(tree[1]), tuple)

    def test_texts_that_write_no_tree(self):
        for text in (
            "", " ", "  ", "(", ")", "()", "(|", "(|)", "(-)", "|", "-", "(0)", "(0 1)", "(|0)", "(|0 )", "(-0)",
            "1", "2", "24", "-0", "-1", "+0", "00", "01", "0 1", "0 ", " 0", "0)", "(0", "0\n", "\n0", "0\t", "0.0",
            "(|0 1", "|0 1)", "(|0 1))", "((|0 1)", "((|0 1))", "(|0 1) ", " (|0 1)", "(| 0 1)", "(|0  1)", "(|0 1 )",
            "( |0 1)", "(|0\t1)", "(|0\n1)", "(|0,1)", "(|0 1,)", "(|01)", "(|00 1)", "(|0 01)", "(|0 1)0", "(|0 1)(|2 3)",
            "(|0 1) (|2 3)", "(/0 1)", "(+0 1)", "(||0 1)", "(|-0 1)", "(-|0 1)", "(0|1)", "(0 1|)", "[|0 1]", "{|0 1}",
            "(|0 0)", "(|1 2)", "(|0 2)", "(|0 -1)", "(|-1 0)", "(|0 +1)", "(|0 1_0)", "(|0 1.0)", "(|0 x)", "(|a b)",
            "(|0 (|1 2))", "(|(|0 1) 2)", "(-0 (-1 2))", "(|0 (-1))", "(|0 ())", "(|0 (-))", "(|0(-1 2))", "(|0 (-1 2)",
            "(|(-0 1)2)", "(|0 (-1 2)3)", "(|0 (- 1 2))", "(|0 (-1 2) )", "(|0 ( -1 2))", "('|', (0, 1))", "stuck",
            "(|0 \u0661)", "\u0660", "\u00b2", "(|0 \uff11)", "(|0\u00a01)", "(|0\u20031)", "(\u23500 1)", "0\x00", "\x000",
            "0\r", "0\x0b", "0\x1c", "0\u2028", "None", "True", "0x0", "1e0", "(|0 1)\\", "\"0\"",
        ):
            self.refused(text)

    def test_figures_with_a_0_ahead(self):
        for tree in GREAT[:3]:
            words = show_tree(tree).split(" ")
            for number in range(24):
                for ahead in ("0", "00", " ", "+", "-", "_"):
                    changed = [word.replace(str(number), ahead + str(number)) if figures(word) == str(number) else word
                               for word in words]
                    self.assertNotEqual(changed, words)
                    self.refused(" ".join(changed))

    def test_too_many_boxes(self):
        for tree in (broad_tree("|", 25), broad_tree("-", 30), deep_tree(25), deep_tree(60), tree_by_chance(3, 25)):
            self.refused(spelt(tree))

    def test_signs_left_out(self):
        texts = {show_tree(tree): tree for tree in SMALL}
        for text in [shown[2] for shown in SHOWN] + list(texts) + [show_tree(tree) for tree in GREAT]:
            for k in range(len(text)):
                self.either(texts, text[:k] + text[k + 1:])

    def test_signs_put_in(self):
        texts = {show_tree(tree): tree for tree in SMALL}
        for text in [shown[2] for shown in SHOWN] + list(texts)[:200] + [show_tree(tree) for tree in GREAT]:
            for k in range(len(text) + 1):
                for sign in "()|- 0129,x\n":
                    self.either(texts, text[:k] + sign + text[k:])

    def test_signs_exchanged(self):
        known = SMALL + all_trees(5) + [shown[0] for shown in SHOWN]
        texts = {spelt(tree): tree for tree in known}
        for text in [shown[2] for shown in SHOWN if shown[1] < 6] + [spelt(tree) for tree in SMALL[:200]]:
            for k in range(len(text)):
                for sign in "()|- 01234x\n":
                    self.either(texts, text[:k] + sign + text[k + 1:])
            for k in range(len(text) - 1):
                self.either(texts, text[:k] + text[k + 1] + text[k] + text[k + 2:])

    def test_every_short_text(self):
        texts = {show_tree(tree): tree for tree in SMALL}
        read = 0
        for many in range(7):
            for signs in itertools.product("()|- 01", repeat=many):
                read += self.either(texts, "".join(signs))
        self.assertEqual(read, 5)

    def either(self, texts, text):
        """Read where it is known to write a tree, and else refused."""
        if text in texts:
            self.assertEqual(read_tree(text), texts[text])
            return 1
        self.refused(text)
        return 0

    def test_however_deep(self):
        for many in (24, 25, 120, 900, 1000, 1300, 2000, 4000, 20000):
            for text in ("(", ")", "(|", "(-", "(|(-", "(|0 (-", "(|0 ", "( ", "((|0 1) ", "()", ")(", "|", "-", " "):
                self.refused(text * many)
            self.refused("(" * many + "0" + ")" * many)
            self.refused("(|" * many + "0 1" + ")" * many)
            self.refused("(|(-" * many + "0" + " 1) 2)" * many)
            self.refused("(|0 (-1 " * many + "2" + "))" * many)
            self.refused("(|0 " * many + "1" + ")" * many)
            self.refused("(|" * many + "0" + " 1)" * many)
            self.refused("(|" + "0 " * many + "1)")
            self.refused("0" * many)
            self.refused("1" * many)
            self.refused("9" * many)
            self.refused("(|0 " + "1" * many + ")")

    def test_what_is_no_text(self):
        for thing in [thing for thing in no_whole_numbers() if not isinstance(thing, str)]:
            self.refused(thing)
        for thing in (0, 1, -1, ("|", (0, 1)), ["0"], ("0",), {"0": 0}, b"0", b"(|0 1)", bytearray(b"0"), NeverEqual()):
            self.refused(thing)

    def test_by_name(self):
        self.assertEqual(read_tree(text="(|1 0)"), ("|", (1, 0)))


if __name__ == "__main__":
    unittest.main()
