"""Walls: the longest straight rows of borders between boxes, and the boxes on both sides of them."""

from pagepart.errors import NoPlace
from pagepart.pages import BELOW, BOXES, LEFT, RIGHT, TOP

PLACE = 0
FIRST = 1
LAST = 2


def goes_on(wall, border):
    return wall[PLACE] == border[PLACE] and wall[LAST] == border[FIRST]


def joined(borders):
    walls = []
    for border in sorted(borders):
        if walls and goes_on(walls[-1], border):
            walls[-1] = (border[PLACE], walls[-1][FIRST], border[LAST])
        else:
            walls.append(border)
    return walls


# Where two places next to one another lie in different boxes, the second one's box
# begins there. So the lefts (the tops) of boxes, off the page's border, make up all walls.


def uprights(page):
    return joined([(box[LEFT], box[TOP], box[BELOW]) for box in page[BOXES] if box[LEFT] > 0])


def levels(page):
    return joined([(box[TOP], box[LEFT], box[RIGHT]) for box in page[BOXES] if box[TOP] > 0])


def wall_at(walls, place, first):
    """The number of the wall at which a side lies that begins at first."""
    if place == 0:
        return -1
    for number, wall in enumerate(walls):
        if wall[PLACE] == place and wall[FIRST] <= first < wall[LAST]:
            return number
    # Every side within the page lies at a wall, so this one lies at the far border.
    return len(walls)


def sides(page, box):
    if not 0 <= box < len(page[BOXES]):
        raise NoPlace("the page has no box of that number")
    upright = uprights(page)
    level = levels(page)
    edges = page[BOXES][box]
    return (
        wall_at(upright, edges[LEFT], edges[TOP]),
        wall_at(upright, edges[RIGHT], edges[TOP]),
        wall_at(level, edges[TOP], edges[LEFT]),
        wall_at(level, edges[BELOW], edges[LEFT]),
    )


def is_beside(one, other):
    return one[RIGHT] == other[LEFT] and one[TOP] < other[BELOW] and other[TOP] < one[BELOW]


def is_beneath(one, other):
    return one[BELOW] == other[TOP] and one[LEFT] < other[RIGHT] and other[LEFT] < one[RIGHT]


def pairs(boxes, are_met):
    found = []
    for number, one in enumerate(boxes):
        found.extend([(number, behind) for behind, other in enumerate(boxes) if are_met(one, other)])
    return found


def beside(page):
    return pairs(page[BOXES], is_beside)


def beneath(page):
    return pairs(page[BOXES], is_beneath)
