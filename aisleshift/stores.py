"""What a store is, and what is refused as none."""

from aisleshift.errors import BadStore

MOST_SHELVES = 5
MOST_ROOM = 9
MOST_WISHES = 5
MOST_KEEP = 3
KINDS = ("fetch", "bring")
SIDES = ("left", "right", "any")


class Store:
    """Shelves on rails, the aisle among them, and the wishes."""

    def __init__(self, shelves, aisle, wishes):
        _refuse_no_store(shelves, aisle, wishes)
        # Copies, since the lists may be changed later by whoever handed them in.
        self._shelves = list(shelves)
        self._wishes = list(wishes)
        self.aisle = aisle

    def shelves(self):
        """Tells the shelves as handed in, in a list of the caller's own."""
        return list(self._shelves)

    def wishes(self):
        """Tells the wishes as handed in, in a list of the caller's own."""
        return list(self._wishes)


def _refuse_no_store(shelves, aisle, wishes):
    """Refuses with BadStore the first thing that is wrong."""
    if not 1 <= len(shelves) <= MOST_SHELVES:
        raise BadStore("shelves", 0)
    for number, shelf in enumerate(shelves):
        if not _is_shelf(shelf):
            raise BadStore("shelf", number)
    if not 0 <= aisle <= len(shelves):
        raise BadStore("aisle", 0)
    if len(wishes) > MOST_WISHES:
        raise BadStore("wishes", 0)
    for number, wish in enumerate(wishes):
        if not _is_wish(wish, len(shelves), len(wishes)):
            raise BadStore("wish", number)


def _is_shelf(shelf):
    """Tells whether this is a shelf's tuple, within its bounds."""
    # A list would still be the caller's, who may change it later.
    if not isinstance(shelf, tuple) or len(shelf) != 3:
        return False
    room, has, sticks = shelf
    return 0 <= has <= room <= MOST_ROOM and sticks in (0, 1)


def _is_wish(wish, many_shelves, many_wishes):
    """Tells whether this is a wish's tuple in a store of so many shelves and wishes."""
    if not isinstance(wish, tuple) or len(wish) != 6:
        return False
    kind, shelf, side, crew, keep, after = wish
    if kind not in KINDS or side not in SIDES or crew not in (0, 1):
        return False
    if not 0 <= shelf < many_shelves or not 0 <= keep <= MOST_KEEP:
        return False
    return isinstance(after, tuple) and _is_rising(after, many_wishes)


def _is_rising(numbers, many):
    """Tells whether the numbers rise, and are from 0 to below many."""
    lowest = 0
    for number in numbers:
        if not lowest <= number < many:
            return False
        lowest = number + 1
    return True
