"""Running texts: words poured into rooms one behind the other."""

from pagepart.errors import NoNeeds
from pagepart.lines import refuse_no_words, taken
from pagepart.pages import is_length


def is_room(thing):
    return isinstance(thing, tuple) and len(thing) == 2 and all([is_length(part) for part in thing])


def refuse_no_rooms(things):
    if not isinstance(things, list) or not all([is_room(thing) for thing in things]):
        raise NoNeeds("rooms are a list of tuples of two whole numbers from 1 on")


def narrow_ones(words, wide):
    """The words ahead of the first one that is wider than the width."""
    for number, word in enumerate(words):
        if len(word) > wide:
            return words[:number]
    return words


def words_on(rows):
    return sum([len(row.split(" ")) for row in rows])


def poured(words, rooms):
    refuse_no_words(words)
    refuse_no_rooms(rooms)
    filled = []
    used = 0
    for wide, high in rooms:
        rows = taken(narrow_ones(words[used:], wide), wide)[:high]
        filled.append(rows)
        used += words_on(rows)
    return (filled, words[used:])


def least_rooms(words, many, wide):
    refuse_no_words(words)
    if not words:
        return 1
    if any([len(word) > wide for word in words]):
        return None
    # Rooms of one width take the lines of that width one behind the other,
    # so many of them to each room: the last one may stay less than full.
    return (len(taken(words, wide)) + many - 1) // many
