"""Setting: where the boxes of a tree with texts lie in a width and a height."""

from pagepart.errors import NoRoom
from pagepart.pages import BELOW, LEFT, RIGHT, TOP, is_whole
from pagepart.stairs import box_stairs, least_high, lowest, narrowest, stairs_of
from pagepart.trees import ACROSS, KIND, PARTS


def edges(first, last, lengths):
    """The ends of parts that lie from first to last: each as long as told, one more takes what is left."""
    places = [first]
    for length in lengths:
        places.append(places[-1] + length)
    return places + [last]


def pieces_across(parts, stairs, piece):
    high = piece[BELOW] - piece[TOP]
    widths = [narrowest(stairs_of(part, stairs), high) for part in parts[:-1]]
    places = edges(piece[LEFT], piece[RIGHT], widths)
    return [(left, piece[TOP], right, piece[BELOW]) for left, right in zip(places, places[1:])]


def pieces_down(parts, stairs, piece):
    wide = piece[RIGHT] - piece[LEFT]
    heights = [lowest(stairs_of(part, stairs), wide) for part in parts[:-1]]
    places = edges(piece[TOP], piece[BELOW], heights)
    return [(piece[LEFT], top, piece[RIGHT], below) for top, below in zip(places, places[1:])]


def pieces_of(tree, stairs, piece):
    if tree[KIND] == ACROSS:
        return pieces_across(tree[PARTS], stairs, piece)
    return pieces_down(tree[PARTS], stairs, piece)


def set_in(tree, stairs, piece):
    """Tuples (number, box) for a tree, or a part of one, in a piece with room for the stairs of its boxes."""
    if is_whole(tree):
        return [(tree, piece)]
    found = []
    for part, own in zip(tree[PARTS], pieces_of(tree, stairs, piece)):
        found.extend(set_in(part, stairs, own))
    return found


def height_in(tree, texts, wide):
    """The least height for a width, refused where there is none."""
    least = least_high(tree, texts, wide)
    if least is None:
        raise NoRoom("the texts have no room in that width, however high the page is")
    return least


def setting(tree, texts, wide, high):
    if high < height_in(tree, texts, wide):
        raise NoRoom("the texts have no room in that width and that height")
    found = set_in(tree, box_stairs(texts), (0, 0, wide, high))
    return [box for number, box in sorted(found)]
