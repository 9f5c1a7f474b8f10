"""The desk: it keeps a tree with texts, is told rows, and answers each by a text."""

from pagepart.cutting import tree_of
from pagepart.errors import NoNumber, NoPlace, NoRow, NoTexts
from pagepart.pages import make_page
from pagepart.printing import printed
from pagepart.setting import height_in, setting
from pagepart.stairs import is_text, least_high, least_wide, tree_stairs
from pagepart.trees import boxes_of, read_tree, show_tree

FIGURES = "0123456789"
MOST_FIGURES = 5
MOST_NUMBER = 50000

# How many numbers stand in each row behind its first word.
NUMBERS = {"tree": 0, "text": 1, "high": 1, "wide": 1, "stairs": 0, "print": 1, "box": 2, "words": 1, "page": 1}

# The rows that go on with other words, and with how many at least.
OTHERS = {"tree": 1, "text": 0}


def has_its_words(words):
    if words[0] not in NUMBERS:
        return False
    others = len(words) - 1 - NUMBERS[words[0]]
    if words[0] in OTHERS:
        return others >= OTHERS[words[0]]
    return others == 0


def words_in_row(row):
    if not isinstance(row, str):
        raise NoRow("a row is a text")
    words = row.split(" ")
    if not has_its_words(words):
        raise NoRow("a row begins with one of its first words and has just the words that belong to it")
    return words


def is_number(word):
    if not 1 <= len(word) <= MOST_FIGURES or not all([sign in FIGURES for sign in word]):
        return False
    return word == "0" or not word.startswith("0")


def number_in(word):
    if not is_number(word) or int(word) > MOST_NUMBER:
        raise NoNumber("a number is written by one to five figures, with no 0 ahead, and is at most 50,000")
    return int(word)


def refuse_no_box(number, texts):
    if number >= len(texts):
        raise NoPlace("the tree has no box of that number")


def number_or_none(number):
    return "none" if number is None else str(number)


def with_commas(numbers):
    return ",".join([str(number) for number in numbers])


# Each of these answers one row for a tree, its texts and the numbers of the row.


def answer_high(tree, texts, numbers):
    return number_or_none(least_high(tree, texts, numbers[0]))


def answer_wide(tree, texts, numbers):
    return number_or_none(least_wide(tree, texts, numbers[0]))


def answer_stairs(tree, texts, numbers):
    return " ".join([with_commas(stair) for stair in tree_stairs(tree, texts)])


def answer_print(tree, texts, numbers):
    return "/".join(printed(tree, texts, numbers[0]))


def answer_box(tree, texts, numbers):
    refuse_no_box(numbers[0], texts)
    wide = numbers[1]
    boxes = setting(tree, texts, wide, height_in(tree, texts, wide))
    return with_commas(boxes[numbers[0]])


def answer_words(tree, texts, numbers):
    refuse_no_box(numbers[0], texts)
    return " ".join(texts[numbers[0]])


def answer_page(tree, texts, numbers):
    wide = numbers[0]
    high = height_in(tree, texts, wide)
    page = make_page(wide, high, setting(tree, texts, wide, high))
    return show_tree(tree_of(page))


ANSWERS = {
    "high": answer_high,
    "wide": answer_wide,
    "stairs": answer_stairs,
    "print": answer_print,
    "box": answer_box,
    "words": answer_words,
    "page": answer_page,
}


class Desk:
    def __init__(self):
        self.tree = 0
        self.texts = [[]]

    def say(self, row):
        words = words_in_row(row)
        behind = 1 + NUMBERS[words[0]]
        numbers = [number_in(word) for word in words[1:behind]]
        if words[0] == "tree":
            return self.keep_tree(words[behind:])
        if words[0] == "text":
            return self.keep_text(numbers[0], words[behind:])
        return ANSWERS[words[0]](self.tree, self.texts, numbers)

    def keep_tree(self, words):
        # What is read is kept only when nothing can be refused any more.
        tree = read_tree(" ".join(words))
        self.tree = tree
        self.texts = [[] for number in range(boxes_of(tree))]
        return "ok"

    def keep_text(self, number, words):
        refuse_no_box(number, self.texts)
        if not is_text(words):
            raise NoTexts("the text of a box is at most 40 words of 1 to 12 signs")
        self.texts[number] = words
        return "ok"
