"""Pages: tuples (wide, high, boxes), each place of which lies in just one box."""

from pagepart.errors import NoPage, NoPlace

WIDE = 0
HIGH = 1
BOXES = 2

LEFT = 0
TOP = 1
RIGHT = 2
BELOW = 3

MOST_BOXES = 24


def is_whole(thing):
    # Python counts True and False as ints; here they are truths and no numbers.
    return isinstance(thing, int) and not isinstance(thing, bool)


def is_length(thing):
    return is_whole(thing) and thing >= 1


def is_box(thing):
    if not isinstance(thing, tuple) or len(thing) != 4:
        return False
    if not all([is_whole(part) for part in thing]):
        return False
    return thing[LEFT] < thing[RIGHT] and thing[TOP] < thing[BELOW]


def are_boxes(things):
    if not isinstance(things, list) or not 1 <= len(things) <= MOST_BOXES:
        return False
    return all([is_box(thing) for thing in things])


def is_within(box, wide, high):
    return 0 <= box[LEFT] and box[RIGHT] <= wide and 0 <= box[TOP] and box[BELOW] <= high


def overlap(one, other):
    across = one[LEFT] < other[RIGHT] and other[LEFT] < one[RIGHT]
    down = one[TOP] < other[BELOW] and other[TOP] < one[BELOW]
    return across and down


def any_overlap(boxes):
    for number, box in enumerate(boxes):
        if any([overlap(box, other) for other in boxes[number + 1:]]):
            return True
    return False


def area(box):
    return (box[RIGHT] - box[LEFT]) * (box[BELOW] - box[TOP])


def fill(boxes, wide, high):
    if not all([is_within(box, wide, high) for box in boxes]) or any_overlap(boxes):
        return False
    # A page may have far too many places to walk. Boxes within it that share
    # no place leave none of its places out just where their areas come to its own.
    return sum([area(box) for box in boxes]) == wide * high


def top_then_left(box):
    return (box[TOP], box[LEFT])


def make_page(wide, high, boxes):
    if not is_length(wide) or not is_length(high):
        raise NoPage("the width and the height of a page are whole numbers from 1 on")
    if not are_boxes(boxes):
        raise NoPage("a page is made of a list of 1 to 24 boxes")
    if not fill(boxes, wide, high):
        raise NoPage("each place of a page lies in just one box, and no box beyond the page")
    return (wide, high, tuple(sorted(boxes, key=top_then_left)))


def lies_in(box, x, y):
    return box[LEFT] <= x < box[RIGHT] and box[TOP] <= y < box[BELOW]


def box_at(page, x, y):
    for number, box in enumerate(page[BOXES]):
        if lies_in(box, x, y):
            return number
    # The boxes leave no place of the page out, so this one is outside of it.
    raise NoPlace("the place lies outside of the page")
