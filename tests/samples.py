"""Pages and things that several tests ask about."""

from fractions import Fraction

# Five boxes around a middle one: no straight cut goes through it.
WHEEL_BOXES = [(0, 0, 2, 1), (2, 0, 3, 2), (0, 1, 1, 3), (1, 1, 2, 2), (1, 2, 3, 3)]
WHEEL = (3, 3, tuple(WHEEL_BOXES))

# Boxes of unlike sizes, whose tops and lefts rise in unlike orders.
STEPS_BOXES = [(0, 0, 4, 2), (4, 0, 7, 5), (0, 2, 1, 6), (1, 2, 4, 3), (1, 3, 4, 6), (4, 5, 7, 6)]
STEPS = (7, 6, tuple(STEPS_BOXES))

SIDE = 50000
BIG_BOXES = [(0, 0, 1, SIDE), (1, 0, SIDE, 49999), (1, 49999, SIDE, SIDE)]
BIG = (SIDE, SIDE, tuple(BIG_BOXES))


class OwnThing:
    pass


def no_whole_numbers():
    return [
        True, False, None, 1.0, 3.5, float("nan"), float("inf"), 1j, Fraction(3), "", "3", b"3",
        [], [3], (), (3,), {}, {3: 3}, {3}, range(3), int, is_nothing, OwnThing(), OwnThing,
    ]


def is_nothing(thing):
    return thing is None


def strips_across(many):
    return [(k, 0, k + 1, 1) for k in range(many)]


def strips_down(many):
    return [(0, k, 1, k + 1) for k in range(many)]


def partings(wide, high):
    """All ways to part wide times high places into boxes, each sorted by top, then by left."""
    return further_partings(wide, high, [])


def further_partings(wide, high, boxes):
    taken = {(x, y) for box in boxes for (x, y) in places(box)}
    free = [(y, x) for y in range(high) for x in range(wide) if (x, y) not in taken]
    if not free:
        return [list(boxes)]
    top, left = free[0]
    found = []
    for right in range(left + 1, wide + 1):
        for below in range(top + 1, high + 1):
            box = (left, top, right, below)
            if not taken.intersection(places(box)):
                found.extend(further_partings(wide, high, boxes + [box]))
    return found


def places(box):
    left, top, right, below = box
    return [(x, y) for x in range(left, right) for y in range(top, below)]


def pages_of(wide, high):
    return [(wide, high, tuple(boxes)) for boxes in partings(wide, high)]


def small_pages():
    return [page for wide in range(1, 5) for high in range(1, 4) for page in pages_of(wide, high)]
