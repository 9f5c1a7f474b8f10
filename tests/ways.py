"""The sizes of pages told in other ways than the program goes."""

import functools
import itertools

from pagepart.lines import lines, text_stairs


@functools.lru_cache(None)
def takes(words, wide):
    """How many lines the words take in a width, or None where one is too wide."""
    if any(len(word) > wide for word in words):
        return None
    return len(lines(list(words), wide))


def holds(words, wide, high):
    """Whether a box holds a text: one of no words where it has a place, else one with as many lines at most."""
    many = takes(tuple(words), wide)
    return wide >= 1 and high >= 1 and many is not None and many <= high


def shares(whole, many):
    """All ways to part a length into so many lengths from 1 on."""
    for places in itertools.combinations(range(1, whole), many - 1):
        edges = [0, *places, whole]
        yield [last - first for first, last in zip(edges, edges[1:])]


class ByAllWays:
    """Whether a tree with texts has a page of a size, told by all ways to choose the sizes of its boxes."""

    def __init__(self, texts):
        self.texts = texts
        self.known = {}

    def has_page(self, tree, wide, high):
        key = (tree, wide, high)
        if key not in self.known:
            self.known[key] = self.looked_at(tree, wide, high)
        return self.known[key]

    def looked_at(self, tree, wide, high):
        if not isinstance(tree, tuple):
            return holds(self.texts[tree], wide, high)
        kind, parts = tree
        if kind == "|":
            ways = [[(share, high) for share in way] for way in shares(wide, len(parts))]
        else:
            ways = [[(wide, share) for share in way] for way in shares(high, len(parts))]
        return any(all(self.has_page(part, *size) for part, size in zip(parts, way)) for way in ways)


def stairs_by_sums(tree, texts):
    """The stairs, told for each height (width) by the sum of the least widths (heights) of all parts."""
    if not isinstance(tree, tuple):
        return text_stairs(texts[tree])
    kind, parts = tree
    flip = (lambda stair: stair) if kind == "|" else (lambda stair: stair[::-1])
    stairs = [[flip(stair) for stair in stairs_by_sums(part, texts)] for part in parts]
    sizes = set()
    for high in {high for part in stairs for wide, high in part}:
        least = [min([wide for wide, own in part if own <= high], default=None) for part in stairs]
        if None not in least:
            sizes.add((sum(least), high))
    found = []
    for wide, high in sorted(sizes):
        if not found or high < found[-1][1]:
            found.append((wide, high))
    return sorted(flip(stair) for stair in found)


def set_by(tree, piece, narrow, low):
    """Each box by number, where a part can be just so narrow in a height and so low in a width."""
    left, top, right, below = piece
    if not isinstance(tree, tuple):
        return {tree: piece}
    kind, parts = tree
    found = {}
    for part in parts[:-1]:
        if kind == "|":
            middle = left + narrow(part, below - top)
            found.update(set_by(part, (left, top, middle, below), narrow, low))
            left = middle
        else:
            middle = top + low(part, right - left)
            found.update(set_by(part, (left, top, right, middle), narrow, low))
            top = middle
    found.update(set_by(parts[-1], (left, top, right, below), narrow, low))
    return found


def set_by_all_ways(tree, texts, wide, high):
    ways = ByAllWays(texts)
    return set_by(
        tree, (0, 0, wide, high),
        lambda part, own: next(size for size in itertools.count(1) if ways.has_page(part, size, own)),
        lambda part, own: next(size for size in itertools.count(1) if ways.has_page(part, own, size)),
    )


def set_by_sums(tree, texts, wide, high):
    stairs = functools.lru_cache(None)(lambda part: stairs_by_sums(part, texts))
    return set_by(
        tree, (0, 0, wide, high),
        lambda part, own: min(stair[0] for stair in stairs(part) if stair[1] <= own),
        lambda part, own: min(stair[1] for stair in stairs(part) if stair[0] <= own),
    )
