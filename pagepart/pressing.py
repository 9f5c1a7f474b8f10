"""Pressing: the walls of a page at their least places, by what its boxes need."""

from pagepart.errors import NoNeeds
from pagepart.pages import BOXES, HIGH, WIDE, is_whole
from pagepart.walls import sides

MOST_NEED = 2000

# The order in which the sides of a box are told.
LEFT_SIDE = 0
RIGHT_SIDE = 1
UPPER_SIDE = 2
LOWER_SIDE = 3

# A span is what a box asks for in one direction: so much room from its near wall to its far one.
NEAR = 0
FAR = 1
NEED = 2


def is_need(thing):
    if not isinstance(thing, tuple) or len(thing) != 2:
        return False
    return all([is_whole(part) and 1 <= part <= MOST_NEED for part in thing])


def refuse_no_needs(page, needs):
    if not isinstance(needs, list) or len(needs) != len(page[BOXES]):
        raise NoNeeds("the needs of a page are a list with one need for each box")
    if not all([is_need(need) for need in needs]):
        raise NoNeeds("a need is a tuple of a width and a height, whole numbers from 1 to 2,000")


def all_sides(page):
    return [sides(page, number) for number in range(len(page[BOXES]))]


def spans_across(page, needs):
    refuse_no_needs(page, needs)
    return [(edges[LEFT_SIDE], edges[RIGHT_SIDE], need[WIDE]) for edges, need in zip(all_sides(page), needs)]


def spans_down(page, needs):
    refuse_no_needs(page, needs)
    return [(edges[UPPER_SIDE], edges[LOWER_SIDE], need[HIGH]) for edges, need in zip(all_sides(page), needs)]


# The near border is told as -1, so the place of a wall or border stands in a list
# of all places one behind its number.


def place_of(places, wall):
    return places[wall + 1]


def least_end(span, places):
    return place_of(places, span[NEAR]) + span[NEED]


def all_places(spans):
    """The place of the near border, the least place of each wall, and that of the far border."""
    places = [0]
    # A wall is numbered behind all walls that lie ahead of it, and each one has boxes
    # that end at it. So the places that its own one hangs on are there already.
    for wall in range(max([span[FAR] for span in spans]) + 1):
        places.append(max([least_end(span, places) for span in spans if span[FAR] == wall]))
    return places


def least_places(page, needs):
    return (all_places(spans_across(page, needs))[1:], all_places(spans_down(page, needs))[1:])


def box_between(edges, across, down):
    return (
        place_of(across, edges[LEFT_SIDE]),
        place_of(down, edges[UPPER_SIDE]),
        place_of(across, edges[RIGHT_SIDE]),
        place_of(down, edges[LOWER_SIDE]),
    )


def pressed(page, needs):
    across = all_places(spans_across(page, needs))
    down = all_places(spans_down(page, needs))
    return [box_between(edges, across, down) for edges in all_sides(page)]


def last_to(wall, spans, places):
    """The first box by number that ends at a wall and whose need sets that wall's least place."""
    place = place_of(places, wall)
    ends = [span[FAR] == wall and least_end(span, places) == place for span in spans]
    return ends.index(True)


def chain(spans):
    places = all_places(spans)
    wall = max([span[FAR] for span in spans])
    numbers = []
    while wall >= 0:
        number = last_to(wall, spans, places)
        numbers.append(number)
        wall = spans[number][NEAR]
    return list(reversed(numbers))


def chain_across(page, needs):
    return chain(spans_across(page, needs))


def chain_down(page, needs):
    return chain(spans_down(page, needs))
