"""Stores as texts."""

from aisleshift.errors import BadText
from aisleshift.stores import KINDS, SIDES, Store

FIGURES = ("0", "1", "2", "3", "4", "5", "6", "7", "8", "9")


def written(store):
    """Tells the text of the store."""
    rows = [f"store {store.aisle}"]
    for room, has, sticks in store.shelves():
        rows.append(f"shelf {room} {has} {sticks}")
    for kind, shelf, side, crew, keep, after in store.wishes():
        rows.append(f"{kind} {shelf} {side} {crew} {keep} {_after_written(after)}")
    return "\n".join(rows)


def read(text):
    """Tells the store of the text; refuses with BadText, else with BadStore."""
    rows = [row.split(" ") for row in text.split("\n")]
    if not _is_store_row(rows[0]):
        raise BadText(0)
    shelves = []
    wishes = []
    # From here on a store's row is a second one, which is refused as any other.
    for number, words in enumerate(rows[1:], start=1):
        if _is_shelf_row(words) and len(wishes) == 0:
            shelves.append(_shelf(words))
        elif _is_wish_row(words):
            wishes.append(_wish(words))
        else:
            raise BadText(number)
    return Store(shelves, int(rows[0][1]), wishes)


def _is_store_row(words):
    """Tells whether these are the words of a store's row."""
    return len(words) == 2 and words[0] == "store" and _are_figures(words[1:])


def _is_shelf_row(words):
    """Tells whether these are the words of a shelf's row."""
    return len(words) == 4 and words[0] == "shelf" and _are_figures(words[1:])


def _is_wish_row(words):
    """Tells whether these are the words of a wish's row."""
    if len(words) != 6:
        return False
    kind, shelf, side, crew, keep, after = words
    if kind not in KINDS or side not in SIDES or not _are_figures([shelf, crew, keep]):
        return False
    return after == "-" or _are_figures(after.split(","))


def _are_figures(words):
    """Tells whether each word is one figure."""
    return all([word in FIGURES for word in words])


def _shelf(words):
    """Tells the shelf of a row of these words."""
    room, has, sticks = [int(word) for word in words[1:]]
    return (room, has, sticks)


def _wish(words):
    """Tells the wish of a row of these words."""
    kind, shelf, side, crew, keep, after = words
    return (kind, int(shelf), side, int(crew), int(keep), _after_read(after))


def _after_written(after):
    """Tells the word for the numbers of the wishes that come earlier."""
    if len(after) == 0:
        return "-"
    return ",".join([str(number) for number in after])


def _after_read(word):
    """Tells the numbers of the wishes that come earlier, of a word for them."""
    if word == "-":
        return ()
    return tuple([int(number) for number in word.split(",")])
