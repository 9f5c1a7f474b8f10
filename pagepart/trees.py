"""Trees of cuts: the number of one box, or a tuple (kind, parts) of two trees or more."""

from pagepart.errors import NoTree
from pagepart.pages import MOST_BOXES, is_whole

KIND = 0
PARTS = 1

ACROSS = "|"
DOWN = "-"
KINDS = (ACROSS, DOWN)

MARKS = ("(", ")", ACROSS, DOWN)


def has_kind(thing):
    # A thing of any kind may stand there, so it is compared only where it is a text.
    return isinstance(thing, tuple) and len(thing) == 2 and isinstance(thing[KIND], str) and thing[KIND] in KINDS


def is_branch(thing):
    """Whether it is a kind with parts that may stand under it, whatever lies in these."""
    if not has_kind(thing):
        return False
    parts = thing[PARTS]
    if not isinstance(parts, tuple) or len(parts) < 2:
        return False
    return not any([has_kind(part) and part[KIND] == thing[KIND] for part in parts])


def numbers_in(thing):
    """All numbers in a thing of a tree's form; none where it has another form or too many boxes."""
    numbers = []
    ahead = [thing]
    while ahead:
        part = ahead.pop()
        if is_whole(part):
            numbers.append(part)
        elif is_branch(part):
            ahead.extend(part[PARTS])
        else:
            return []
        # Each thing ahead has a box at least. So the walk ends soon, however deep or
        # broad the thing is and however often one thing lies in it.
        if len(numbers) + len(ahead) > MOST_BOXES:
            return []
    return numbers


def is_tree(thing):
    numbers = numbers_in(thing)
    return len(numbers) > 0 and sorted(numbers) == list(range(len(numbers)))


def refuse_no_tree(thing):
    if not is_tree(thing):
        raise NoTree("a tree is the number of a box, or a kind and its parts, each box from 0 on just once")


def boxes_of(tree):
    refuse_no_tree(tree)
    return len(numbers_in(tree))


def written(tree):
    if is_whole(tree):
        return str(tree)
    parts = " ".join([written(part) for part in tree[PARTS]])
    return "(" + tree[KIND] + parts + ")"


def show_tree(tree):
    refuse_no_tree(tree)
    return written(tree)


def marks_in(text):
    for mark in MARKS:
        text = text.replace(mark, f" {mark} ")
    return text.split()


def number_of(mark):
    try:
        return int(mark)
    except ValueError:
        raise NoTree("a tree is written with brackets, kinds, figures and blanks alone") from None


def thing_written(text):
    """What stands in a text, its brackets being tuples, whether it is a tree or not."""
    # Brackets may stand too deep for calls within calls. So the things in each one that
    # is not closed yet are kept here, the outermost first, behind those in none.
    unclosed = [[]]
    for mark in marks_in(text):
        if mark == "(":
            unclosed.append([])
        elif mark == ")":
            things = unclosed.pop()
            if not unclosed or not things:
                raise NoTree("a bracket is closed that was not opened, or holds nothing")
            unclosed[-1].append((things[0], tuple(things[1:])))
        elif mark in KINDS:
            unclosed[-1].append(mark)
        else:
            unclosed[-1].append(number_of(mark))
    if len(unclosed) != 1 or len(unclosed[0]) != 1:
        raise NoTree("a bracket is not closed, or other than one thing is written")
    return unclosed[0][0]


def read_tree(text):
    if not isinstance(text, str):
        raise NoTree("a tree is read from a text")
    tree = thing_written(text)
    # Blanks and figures are read freely, and a tree is written in just one way:
    # so the text writes the tree just where it is what the tree is written as.
    if show_tree(tree) != text:
        raise NoTree("a tree is written with one blank between two parts, and no 0 ahead of a number")
    return tree
