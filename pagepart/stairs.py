"""Stairs: the least widths and heights of the pages of a tree in which all texts have room."""

from pagepart.errors import NoTexts
from pagepart.lines import are_words, text_stairs
from pagepart.pages import HIGH, WIDE, is_whole
from pagepart.trees import ACROSS, KIND, PARTS, boxes_of

MOST_WORDS = 40


def is_text(thing):
    return are_words(thing) and len(thing) <= MOST_WORDS


def refuse_no_texts(tree, texts):
    """NoTree for what is no tree, behind it NoTexts for what is none of texts for it."""
    many = boxes_of(tree)
    if not isinstance(texts, list) or len(texts) != many:
        raise NoTexts("texts for a tree are a list with one text for each box")
    if not all([is_text(text) for text in texts]):
        raise NoTexts("the text of a box is a list of at most 40 words")


def side_by_side(one, other):
    """The stairs of two pieces of one height beside one another."""
    stairs = []
    first = 0
    second = 0
    while first < len(one) and second < len(other):
        wide = one[first][WIDE] + other[second][WIDE]
        high = max(one[first][HIGH], other[second][HIGH])
        stairs.append((wide, high))
        # The lower one of the two could be no less wide in this height. So a lower
        # whole needs the higher one to take its next stair, and both where they are alike.
        if one[first][HIGH] == high:
            first += 1
        if other[second][HIGH] == high:
            second += 1
    return stairs


def all_side_by_side(parts):
    stairs = parts[0]
    for part in parts[1:]:
        stairs = side_by_side(stairs, part)
    return stairs


def exchanged(stairs):
    """The stairs with widths for heights, which rise again from behind."""
    return [(high, wide) for wide, high in reversed(stairs)]


def box_stairs(texts):
    return [text_stairs(words) for words in texts]


def stairs_of(tree, boxes):
    """The stairs of a tree, or of a part of one, with those of the boxes by number."""
    if is_whole(tree):
        return boxes[tree]
    parts = [stairs_of(part, boxes) for part in tree[PARTS]]
    if tree[KIND] == ACROSS:
        return all_side_by_side(parts)
    return exchanged(all_side_by_side([exchanged(part) for part in parts]))


def lowest(stairs, wide):
    return min([stair[HIGH] for stair in stairs if stair[WIDE] <= wide], default=None)


def narrowest(stairs, high):
    return min([stair[WIDE] for stair in stairs if stair[HIGH] <= high], default=None)


def tree_stairs(tree, texts):
    refuse_no_texts(tree, texts)
    return stairs_of(tree, box_stairs(texts))


def least_high(tree, texts, wide):
    return lowest(tree_stairs(tree, texts), wide)


def least_wide(tree, texts, high):
    return narrowest(tree_stairs(tree, texts), high)
