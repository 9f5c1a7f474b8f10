"""Pages and things that several tests ask about."""

import itertools
import random
from fractions import Fraction

# Five boxes around a middle one: no straight cut goes through it.
WHEEL_BOXES = [(0, 0, 2, 1), (2, 0, 3, 2), (0, 1, 1, 3), (1, 1, 2, 2), (1, 2, 3, 3)]
WHEEL = (3, 3, tuple(WHEEL_BOXES))

# The same, the other way round.
BACK_WHEEL = (3, 3, ((0, 0, 1, 2), (1, 0, 3, 1), (1, 1, 2, 2), (2, 1, 3, 3), (0, 2, 2, 3)))

# Boxes of unlike sizes, whose tops and lefts rise in unlike orders.
STEPS_BOXES = [(0, 0, 4, 2), (4, 0, 7, 5), (0, 2, 1, 6), (1, 2, 4, 3), (1, 3, 4, 6), (4, 5, 7, 6)]
STEPS = (7, 6, tuple(STEPS_BOXES))

ONE = (1, 1, ((0, 0, 1, 1),))

# Four boxes that meet in one place.
CROSS = (2, 2, ((0, 0, 1, 1), (1, 0, 2, 1), (0, 1, 1, 2), (1, 1, 2, 2)))

# A wheel to the right of one box and above another one.
WHEEL_WITHIN = (4, 4, (
    (0, 0, 1, 3), (1, 0, 3, 1), (3, 0, 4, 2), (1, 1, 2, 3), (2, 1, 3, 2), (2, 2, 4, 3), (0, 3, 4, 4),
))

SIDE = 50000
BIG_BOXES = [(0, 0, 1, SIDE), (1, 0, SIDE, 49999), (1, 49999, SIDE, SIDE)]
BIG = (SIDE, SIDE, tuple(BIG_BOXES))


class OwnThing:
    pass


def no_whole_numbers():
    return [
        True, False, None, 1.0, 3.5, float("nan"), float("inf"), 1j, Fraction(3), "", "3", b"3",
        [], [3], (), (3,), {}, {3: 3}, {3}, range(3), int, is_nothing, OwnThing(), OwnThing,
    ]


def is_nothing(thing):
    return thing is None


def strips_across(many):
    return [(k, 0, k + 1, 1) for k in range(many)]


def strips_down(many):
    return [(0, k, 1, k + 1) for k in range(many)]


def partings(wide, high):
    """All ways to part wide times high places into boxes, each sorted by top, then by left."""
    return further_partings(wide, high, [])


def further_partings(wide, high, boxes):
    taken = {(x, y) for box in boxes for (x, y) in places(box)}
    free = [(y, x) for y in range(high) for x in range(wide) if (x, y) not in taken]
    if not free:
        return [list(boxes)]
    top, left = free[0]
    found = []
    for right in range(left + 1, wide + 1):
        for below in range(top + 1, high + 1):
            box = (left, top, right, below)
            if not taken.intersection(places(box)):
                found.extend(further_partings(wide, high, boxes + [box]))
    return found


def places(box):
    left, top, right, below = box
    return [(x, y) for x in range(left, right) for y in range(top, below)]


def pages_of(wide, high):
    return [(wide, high, tuple(boxes)) for boxes in partings(wide, high)]


def small_pages():
    return [page for wide in range(1, 5) for high in range(1, 4) for page in pages_of(wide, high)]


def sorted_page(wide, high, boxes):
    return (wide, high, tuple(sorted(boxes, key=lambda box: (box[1], box[0]))))


def turned(page):
    """The page with across and down exchanged."""
    wide, high, boxes = page
    return sorted_page(high, wide, [(top, left, below, right) for left, top, right, below in boxes])


def grid_page(across, down, size):
    return (across * size, down * size, tuple(
        (x * size, y * size, (x + 1) * size, (y + 1) * size) for y in range(down) for x in range(across)
    ))


def wheel_of(box, chance):
    """The box parted into five around a middle one, either way round."""
    left, top, right, below = box
    x, far_x = sorted(chance.sample(range(left + 1, right), 2))
    y, far_y = sorted(chance.sample(range(top + 1, below), 2))
    middle = (x, y, far_x, far_y)
    if chance.random() < 0.5:
        return [
            (left, top, far_x, y), (far_x, top, right, far_y), (x, far_y, right, below), (left, y, x, below), middle,
        ]
    return [
        (x, top, right, y), (far_x, y, right, below), (left, far_y, far_x, below), (left, top, x, far_y), middle,
    ]


def halves_of(box, chance):
    left, top, right, below = box
    if right - left > 1 and (below - top == 1 or chance.random() < 0.5):
        x = chance.randrange(left + 1, right)
        return [(left, top, x, below), (x, top, right, below)]
    if below - top > 1:
        y = chance.randrange(top + 1, below)
        return [(left, top, right, y), (left, y, right, below)]
    return [box]


def page_by_chance(seed, wide, high, many, wheels):
    """A page of at most so many boxes, at most so many times parted into a wheel, else by halves."""
    chance = random.Random(seed)
    boxes = [(0, 0, wide, high)]
    for step in range(200):
        box = boxes.pop(chance.randrange(len(boxes)))
        room = many - len(boxes)
        big = box[2] - box[0] >= 3 and box[3] - box[1] >= 3
        if wheels and big and room >= 5 and chance.random() < 0.4:
            wheels -= 1
            boxes.extend(wheel_of(box, chance))
        else:
            boxes.extend(halves_of(box, chance) if room >= 2 else [box])
    return sorted_page(wide, high, boxes)


def pages_by_chance(wheels):
    """Pages of up to 24 boxes on few places, where walls often meet, and on many."""
    return [
        page_by_chance(seed, side, side, 2 + seed % 23, wheels)
        for side in (5, 9, 40, SIDE)
        for seed in range(60)
    ]


def trees_of(numbers):
    """All trees with these numbers, in this order from the left."""
    return list(numbers) if len(numbers) == 1 else branches("|", numbers) + branches("-", numbers)


def branches(kind, numbers):
    return [(kind, parts) for parts in rows_of_parts(kind, numbers, 2)]


def parts_under(kind, numbers):
    return list(numbers) if len(numbers) == 1 else branches("-" if kind == "|" else "|", numbers)


def rows_of_parts(kind, numbers, least):
    """All rows of at least so many parts that may stand under a kind."""
    found = [(part,) for part in parts_under(kind, numbers)] if least == 1 else []
    for many in range(1, len(numbers)):
        for part in parts_under(kind, numbers[:many]):
            found.extend([(part,) + rest for rest in rows_of_parts(kind, numbers[many:], 1)])
    return found


def all_trees(many):
    return [tree for order in itertools.permutations(range(many)) for tree in trees_of(order)]


def broad_tree(kind, many):
    return (kind, tuple(range(many)))


def deep_tree(many):
    """A tree as deep as one of so many boxes can be, upright and level cuts by turns."""
    tree = many - 1
    for number in range(many - 2, -1, -1):
        tree = ("|" if number % 2 else "-", (number, tree))
    return tree


def tree_by_chance(seed, many):
    chance = random.Random(seed)
    numbers = list(range(many))
    chance.shuffle(numbers)
    return grown(chance.choice("|-"), numbers, chance)


def grown(kind, numbers, chance):
    if len(numbers) == 1:
        return numbers[0]
    places = sorted(chance.sample(range(1, len(numbers)), chance.randrange(1, min(len(numbers), 5))))
    other = "-" if kind == "|" else "|"
    edges = [0] + places + [len(numbers)]
    return (kind, tuple(grown(other, numbers[first:last], chance) for first, last in zip(edges, edges[1:])))


# All signs that a word may have: those from behind the blank to the tilde but one.
WORD_SIGNS = "".join(chr(number) for number in range(33, 127) if number != 37)


def words_by_chance(seed, many, least=1, most=12):
    chance = random.Random(seed)
    return ["".join(chance.choices(WORD_SIGNS, k=chance.randint(least, most))) for word in range(many)]


def no_words():
    """Things of which each is no word."""
    return [
        "", " ", "a b", " ab", "ab ", "%", "a%b", "12345%789012", "a" * 13, "a" * 4000, "a\tb", "\t", "a\n", "\n", "\x00",
        "\x1f", "\x7f", "\x80", "\xa0", "\u00e9", "\u20ac", "ab\U0001f600", "\ud800", "a\u0301",
        b"ab", 7, 0, True, None, 1.5, ["ab"], ("ab",), {"ab": 1}, {"ab"}, [], (), OwnThing(), OwnThing, str, is_nothing,
    ]


def no_lists():
    """Things that are no list, some of which hold words."""
    return [
        None, True, False, 0, 1, 7, 1.5, "", "ab", "ab cd", b"ab", (), ("ab",), ("ab", "cd"), {}, {"ab": 1}, {0: "ab"},
        {"ab"}, frozenset(["ab"]), range(0), range(2), iter(["ab"]), OwnThing(), OwnThing, list, is_nothing,
    ]


def full_texts(seed, many=24):
    return [words_by_chance(seed * 100 + number, 40) for number in range(many)]


def short_texts(seed, many):
    """Few and short words for each box, for some none."""
    chance = random.Random(seed)
    return [words_by_chance(seed * 100 + number, chance.randint(0, 3), 1, 3) for number in range(many)]


def no_trees():
    """Things that are no tree, each in its own way."""
    within = []
    within.append(within)
    return [
        None, True, False, -1, 1, 7, 1.0, "", "0", "(|0 1)", [], [0], (), (0,), {}, OwnThing(), OwnThing, within,
        ("|", (0,)), ("|", ()), ("|", 0), ("|", [0, 1]), ["|", (0, 1)], ("/", (0, 1)), (("|",), (0, 1)), (0, (0, 1)),
        ("|", (0, 1), 2), ("|",), ("|", (0, 2)), ("|", (1, 2)), ("|", (0, 0)), ("|", (False, True)), ("|", ("0", "1")),
        ("|", (0, ("|", (1, 2)))), ("-", (("-", (0, 1)), 2)), ("-", (0, ("|", (1,)))), broad_tree("|", 25), deep_tree(25),
    ]


def back_deep_tree(many):
    """As deep as can be, too, but each deeper part stands first."""
    tree = 0
    for number in range(1, many):
        tree = ("|" if number % 2 else "-", (tree, number))
    return tree


def full_trees():
    return [
        broad_tree("|", 24), broad_tree("-", 24), deep_tree(24), back_deep_tree(24),
        ("-", tuple(("|", tuple(range(k, k + 6))) for k in range(0, 24, 6))),
        ("|", tuple(("-", tuple(range(k, k + 6))) for k in range(0, 24, 6))),
    ] + [tree_by_chance(seed, 24) for seed in range(10)]


def parts_in(tree):
    if not isinstance(tree, tuple):
        return [tree]
    return [tree] + [within for part in tree[1] for within in parts_in(part)]
