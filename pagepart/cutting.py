"""Cutting: a page's tree of whole cuts, or a piece of it that is stuck."""

from pagepart.pages import BELOW, BOXES, HIGH, LEFT, RIGHT, TOP, WIDE, area, is_box
from pagepart.trees import ACROSS, DOWN, KIND, PARTS

STUCK = "stuck"


def whole_of(page):
    return (0, 0, page[WIDE], page[HIGH])


def lies_within(box, piece):
    across = piece[LEFT] <= box[LEFT] and box[RIGHT] <= piece[RIGHT]
    down = piece[TOP] <= box[TOP] and box[BELOW] <= piece[BELOW]
    return across and down


def boxes_in(page, piece):
    return [box for box in page[BOXES] if lies_within(box, piece)]


def lies_inside(place, spans):
    return any([first < place < last for first, last in spans])


def uncut_ends(spans):
    ends = [span[0] for span in spans] + [span[1] for span in spans]
    return [place for place in sorted(set(ends)) if not lies_inside(place, spans)]


# The boxes fill their piece. So each of its cuts is an end of one of them, and
# the first and the last of the uncut ends are the borders of the piece itself.


def parted_across(page, piece):
    places = uncut_ends([(box[LEFT], box[RIGHT]) for box in boxes_in(page, piece)])
    return [(left, piece[TOP], right, piece[BELOW]) for left, right in zip(places, places[1:])]


def parted_down(page, piece):
    places = uncut_ends([(box[TOP], box[BELOW]) for box in boxes_in(page, piece)])
    return [(piece[LEFT], top, piece[RIGHT], below) for top, below in zip(places, places[1:])]


def parted(page, piece):
    """A kind and the pieces between all cuts of that kind: the piece alone where it has no cut."""
    across = parted_across(page, piece)
    if len(across) > 1:
        return (ACROSS, across)
    return (DOWN, parted_down(page, piece))


def has_cut(page, piece):
    return len(parted(page, piece)[PARTS]) > 1


def first_stuck(page, piece):
    if piece in page[BOXES]:
        return None
    if not has_cut(page, piece):
        return piece
    for part in parted(page, piece)[PARTS]:
        found = first_stuck(page, part)
        if found is not None:
            return found
    return None


def stuck_piece(page):
    # A piece of a page that has a tree has a cut itself, one of the tree's cuts that
    # goes through it. So none is stuck but where one is met on the way down the cuts.
    return first_stuck(page, whole_of(page))


def tree_of_piece(page, piece):
    if piece in page[BOXES]:
        return page[BOXES].index(piece)
    cut = parted(page, piece)
    return (cut[KIND], tuple([tree_of_piece(page, part) for part in cut[PARTS]]))


def tree_of(page):
    if stuck_piece(page) is not None:
        return STUCK
    return tree_of_piece(page, whole_of(page))


def is_piece(page, thing):
    if not is_box(thing):
        return False
    # Boxes share no place, so those within it fill it just where their areas come to its own.
    return sum([area(box) for box in boxes_in(page, thing)]) == area(thing)


def is_stuck(page, piece):
    return is_piece(page, piece) and piece not in page[BOXES] and not has_cut(page, piece)
