"""Pictures: lists of texts, a text for each row of a page's places, a sign for each place."""

from pagepart.errors import NoPage, NoPicture
from pagepart.pages import BELOW, BOXES, HIGH, LEFT, RIGHT, TOP, make_page

SIGNS = "abcdefghijklmnopqrstuvwx"


def run_of(number, box):
    # The left stands ahead of the signs, so that sorted runs stand from the left.
    return (box[LEFT], SIGNS[number] * (box[RIGHT] - box[LEFT]))


def picture_row(boxes, y):
    runs = [run_of(number, box) for number, box in enumerate(boxes) if box[TOP] <= y < box[BELOW]]
    return "".join([run[1] for run in sorted(runs)])


def picture(page):
    return [picture_row(page[BOXES], y) for y in range(page[HIGH])]


def are_even_texts(rows):
    if not isinstance(rows, list) or len(rows) == 0:
        return False
    if not all([isinstance(row, str) for row in rows]):
        return False
    return all([len(row) == len(rows[0]) for row in rows])


def box_round(rows, sign):
    heights = [y for y, row in enumerate(rows) if sign in row]
    left = min([rows[y].find(sign) for y in heights])
    right = max([rows[y].rfind(sign) for y in heights]) + 1
    return (left, heights[0], right, heights[-1] + 1)


def read_picture(rows):
    if not are_even_texts(rows):
        raise NoPicture("a picture is a list of texts of one length")
    boxes = [box_round(rows, sign) for sign in sorted(set("".join(rows)))]
    # Each place lies in the box round its own sign. So where the places of a
    # sign are no box, some place lies in two of these boxes, and they are no page.
    try:
        return make_page(len(rows[0]), len(rows), boxes)
    except NoPage:
        raise NoPicture("a picture has 1 to 24 signs, and the places of each sign are a box") from None
