"""Printing: the page of a tree with texts as rows of signs, and the words read back from them."""

from pagepart.errors import NoPlace, NoRoom
from pagepart.lines import lines
from pagepart.pages import BELOW, LEFT, RIGHT, TOP
from pagepart.setting import height_in, setting
from pagepart.stairs import refuse_no_texts

MOST_WIDE = 400


def laid_over(row, line, left):
    return row[:left] + line + row[left + len(line):]


def printed(tree, texts, wide):
    refuse_no_texts(tree, texts)
    if not 1 <= wide <= MOST_WIDE:
        raise NoRoom("a page is printed in a width from 1 to 400")
    high = height_in(tree, texts, wide)
    rows = [" " * wide] * high
    for words, box in zip(texts, setting(tree, texts, wide, high)):
        for number, line in enumerate(lines(words, box[RIGHT] - box[LEFT]), start=box[TOP]):
            rows[number] = laid_over(rows[number], line, box[LEFT])
    return rows


def is_printed(rows, box):
    """Whether each place of the box is one of the texts."""
    if box[LEFT] < 0 or box[TOP] < 0 or box[BELOW] > len(rows):
        return False
    return all([box[RIGHT] <= len(row) for row in rows[box[TOP]:box[BELOW]]])


def words_of(rows, box):
    # Blanks between the rows part words as those within them do.
    signs = " ".join([row[box[LEFT]:box[RIGHT]] for row in rows[box[TOP]:box[BELOW]]])
    return [word for word in signs.split(" ") if word != ""]


def words_in(rows, boxes):
    if not all([is_printed(rows, box) for box in boxes]):
        raise NoPlace("a box lies beyond the places of the texts")
    return [words_of(rows, box) for box in boxes]
