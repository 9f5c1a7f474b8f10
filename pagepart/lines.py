"""Lines: words set in lines of a width, and the stairs of widths and heights that they take."""

from pagepart.errors import NoRoom, NoTexts

MOST_SIGNS = 12

# The one sign from the blank to the tilde that stands in no text, by its number.
LEFT_OUT = 37


def is_sign(sign):
    return "!" <= sign <= "~" and ord(sign) != LEFT_OUT


def is_word(thing):
    if not isinstance(thing, str) or not 1 <= len(thing) <= MOST_SIGNS:
        return False
    return all([is_sign(sign) for sign in thing])


def are_words(things):
    return isinstance(things, list) and all([is_word(thing) for thing in things])


def refuse_no_words(things):
    if not are_words(things):
        raise NoTexts("words are a list of texts of 1 to 12 signs, no blank among them")


def taken(words, wide):
    """The lines of words none of which is wider than the width."""
    rows = []
    for word in words:
        if rows and len(rows[-1]) + 1 + len(word) <= wide:
            rows[-1] = rows[-1] + " " + word
        else:
            rows.append(word)
    return rows


def lines(words, wide):
    refuse_no_words(words)
    if any([len(word) > wide for word in words]):
        raise NoRoom("a word is wider than the line")
    return taken(words, wide)


def with_next_word(row, behind):
    return len(row) + 1 + len(behind.split(" ")[0])


def next_width(rows):
    """The least width at which one of two lines or more takes another word."""
    return min([with_next_word(row, behind) for row, behind in zip(rows, rows[1:])])


def text_stairs(words):
    refuse_no_words(words)
    if not words:
        return [(1, 1)]
    wide = max([len(word) for word in words])
    rows = taken(words, wide)
    stairs = [(wide, len(rows))]
    # Up to the next width each line takes the very same words, so no width between is looked at.
    while len(rows) > 1:
        wide = next_width(rows)
        fewer = taken(words, wide)
        if len(fewer) < len(rows):
            stairs.append((wide, len(fewer)))
        rows = fewer
    return stairs
