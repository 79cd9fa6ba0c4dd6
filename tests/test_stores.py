"""Points 2 and 3: what a store is, and the first wrong thing that is told."""

import copy
import unittest

from aisleshift.errors import AisleError, BadStore
from aisleshift.stores import Store

SHELF = (2, 1, 0)
WISH = ("fetch", 0, "any", 0, 0, ())


def refusal(shelves, aisle, wishes):
    """The word and number of the refusal, or None for a store."""
    try:
        Store(shelves, aisle, wishes)
    except BadStore as error:
        return (error.word, error.number)
    return None


def wish_refusal(wish, many=1, shelves=2):
    """The same of a store in which this wish stands last of many."""
    return refusal([SHELF] * shelves, 0, [WISH] * (many - 1) + [wish])


class TellingTest(unittest.TestCase):

    def test_tells_what_was_handed_in(self):
        shelves = [(9, 0, 0), (0, 0, 1), (3, 3, 0)]
        wishes = [("bring", 2, "left", 1, 3, (0, 1)), ("fetch", 0, "right", 0, 0, ())]
        store = Store(shelves, 2, wishes)
        self.assertEqual(store.shelves(), shelves)
        self.assertEqual(store.aisle, 2)
        self.assertEqual(store.wishes(), wishes)
        self.assertIs(type(store.shelves()), list)
        self.assertIs(type(store.wishes()), list)

    def test_arguments_by_name(self):
        store = Store(wishes=[WISH], aisle=1, shelves=[SHELF])
        self.assertEqual((store.shelves(), store.aisle, store.wishes()), ([SHELF], 1, [WISH]))

    def test_class_and_methods_stand_in_their_file(self):
        self.assertEqual(Store.__module__, "aisleshift.stores")
        self.assertIn("shelves", vars(Store))
        self.assertIn("wishes", vars(Store))

    def test_handed_in_is_not_changed(self):
        shelves, wishes = [SHELF, (0, 0, 1)], [WISH, ("bring", 1, "left", 1, 2, (0,))]
        before = copy.deepcopy((shelves, wishes))
        store = Store(shelves, 1, wishes)
        store.shelves()
        store.wishes()
        self.assertEqual((shelves, wishes), before)

    def test_handed_in_is_not_changed_by_a_refusal(self):
        shelves, wishes = [SHELF], [WISH, ("steal", 0, "any", 0, 0, ())]
        before = copy.deepcopy((shelves, wishes))
        self.assertEqual(refusal(shelves, 0, wishes), ("wish", 1))
        self.assertEqual((shelves, wishes), before)

    def test_handed_in_may_be_changed_later(self):
        shelves, wishes = [SHELF, (0, 0, 1)], [WISH]
        store = Store(shelves, 1, wishes)
        shelves[0] = (9, 9, 1)
        del shelves[1]
        wishes.append("nothing")
        wishes[0] = None
        self.assertEqual(store.shelves(), [SHELF, (0, 0, 1)])
        self.assertEqual(store.wishes(), [WISH])

    def test_told_may_be_changed(self):
        store = Store([SHELF, (0, 0, 1)], 1, [WISH])
        store.shelves().clear()
        store.wishes()[0] = None
        self.assertEqual(store.shelves(), [SHELF, (0, 0, 1)])
        self.assertEqual(store.wishes(), [WISH])

    def test_stores_are_apart(self):
        one, other = Store([SHELF], 0, []), Store([SHELF, SHELF], 2, [WISH])
        self.assertEqual((len(one.shelves()), one.aisle, one.wishes()), (1, 0, []))
        self.assertEqual((len(other.shelves()), other.aisle, other.wishes()), (2, 2, [WISH]))


class BoundsTest(unittest.TestCase):

    def test_one_to_five_shelves(self):
        for many in range(9):
            told = None if 1 <= many <= 5 else ("shelves", 0)
            self.assertEqual(refusal([SHELF] * many, 0, []), told)

    def test_room_and_has(self):
        for room in range(-2, 13):
            for has in range(-2, 14):
                good = 0 <= room <= 9 and 0 <= has <= room
                self.assertEqual(refusal([(room, has, 0)], 0, []), None if good else ("shelf", 0))

    def test_sticks(self):
        for sticks in range(-2, 5):
            told = None if sticks in (0, 1) else ("shelf", 0)
            self.assertEqual(refusal([(1, 1, sticks)], 0, []), told)

    def test_aisle(self):
        for many in range(1, 6):
            for aisle in range(-2, 9):
                told = None if 0 <= aisle <= many else ("aisle", 0)
                self.assertEqual(refusal([SHELF] * many, aisle, []), told)

    def test_none_to_five_wishes(self):
        for many in range(9):
            told = None if many <= 5 else ("wishes", 0)
            self.assertEqual(refusal([SHELF], 0, [WISH] * many), told)

    def test_kind(self):
        for kind in ("fetch", "bring"):
            self.assertIsNone(wish_refusal((kind, 0, "any", 0, 0, ())))
        for kind in ("", "Fetch", "fetch ", "left", "etch", "fetchbring"):
            self.assertEqual(wish_refusal((kind, 0, "any", 0, 0, ())), ("wish", 0))

    def test_shelf_of_a_wish(self):
        for many in range(1, 6):
            for shelf in range(-2, 8):
                told = None if 0 <= shelf < many else ("wish", 0)
                self.assertEqual(wish_refusal(("fetch", shelf, "any", 0, 0, ()), 1, many), told)

    def test_side(self):
        for side in ("left", "right", "any"):
            self.assertIsNone(wish_refusal(("bring", 0, side, 0, 0, ())))
        for side in ("", "Left", "both", "an", "fetch", "leftright"):
            self.assertEqual(wish_refusal(("bring", 0, side, 0, 0, ())), ("wish", 0))

    def test_crew(self):
        for crew in range(-2, 5):
            told = None if crew in (0, 1) else ("wish", 0)
            self.assertEqual(wish_refusal(("bring", 0, "any", crew, 0, ())), told)

    def test_keep(self):
        for keep in range(-2, 7):
            told = None if 0 <= keep <= 3 else ("wish", 0)
            self.assertEqual(wish_refusal(("bring", 0, "any", 0, keep, ())), told)

    def test_after_names_wishes(self):
        for many in range(1, 6):
            for number in range(-2, 8):
                told = None if 0 <= number < many else ("wish", many - 1)
                self.assertEqual(wish_refusal(("fetch", 0, "any", 0, 0, (number,)), many), told)

    def test_after_rises(self):
        for after in ((), (0, 1, 2), (0, 2), (2,), (1, 2)):
            self.assertIsNone(wish_refusal(("fetch", 0, "any", 0, 0, after), 3))
        for after in ((1, 0), (0, 0), (0, 2, 1), (2, 2), (0, 1, 1), (0, 3), (-1, 0), (0, 1, 2, 3)):
            self.assertEqual(wish_refusal(("fetch", 0, "any", 0, 0, after), 3), ("wish", 2))

    def test_after_may_be_its_own_later_or_in_a_ring(self):
        own = ("fetch", 0, "any", 0, 0, (0,))
        behind = ("fetch", 0, "any", 0, 0, (1,))
        self.assertIsNone(refusal([SHELF], 0, [own]))
        self.assertIsNone(refusal([SHELF], 0, [behind, own]))
        self.assertEqual(refusal([SHELF], 0, [behind]), ("wish", 0))

    def test_more_wishes_than_a_shelf_has_are_a_store(self):
        self.assertIsNone(refusal([(0, 0, 1)], 0, [WISH] * 5))

    def test_tuples_of_another_length(self):
        for shelf in ((), (1,), (1, 1), (1, 1, 0, 0)):
            self.assertEqual(refusal([SHELF, shelf], 0, []), ("shelf", 1))
        for wish in ((), ("fetch",), WISH[:5], WISH + (0,)):
            self.assertEqual(wish_refusal(wish, 2), ("wish", 1))


    def test_lists_in_the_place_of_tuples(self):
        self.assertEqual(refusal([SHELF, list(SHELF)], 0, []), ("shelf", 1))
        self.assertEqual(wish_refusal(list(WISH), 2), ("wish", 1))
        self.assertEqual(wish_refusal(WISH[:5] + ([],), 2), ("wish", 1))
        self.assertEqual(wish_refusal(WISH[:5] + ([0],), 2), ("wish", 1))


class OrderTest(unittest.TestCase):

    def test_number_is_that_of_the_first_bad_one(self):
        bad_shelf, bad_wish = (1, 2, 0), ("fetch", 0, "any", 2, 0, ())
        for number in range(5):
            shelves = [SHELF] * number + [bad_shelf] * (5 - number)
            self.assertEqual(refusal(shelves, 0, []), ("shelf", number))
            wishes = [WISH] * number + [bad_wish] * (5 - number)
            self.assertEqual(refusal([SHELF], 0, wishes), ("wish", number))

    def test_first_of_several_things(self):
        bad_shelf, bad_wish = (1, 2, 0), ("fetch", 9, "any", 0, 0, ())
        good, few, many = [SHELF, SHELF], [WISH, bad_wish], [bad_wish] * 6
        self.assertEqual(refusal([], 9, many), ("shelves", 0))
        self.assertEqual(refusal([bad_shelf] * 6, 9, many), ("shelves", 0))
        self.assertEqual(refusal([SHELF, bad_shelf], 9, many), ("shelf", 1))
        self.assertEqual(refusal([SHELF, bad_shelf], 0, few), ("shelf", 1))
        self.assertEqual(refusal(good, 3, many), ("aisle", 0))
        self.assertEqual(refusal(good, 3, few), ("aisle", 0))
        self.assertEqual(refusal(good, -1, []), ("aisle", 0))
        self.assertEqual(refusal(good, 2, many), ("wishes", 0))
        self.assertEqual(refusal(good, 2, few), ("wish", 1))

    def test_refusal_is_an_aisle_error(self):
        with self.assertRaises(AisleError):
            Store([], 0, [])


if __name__ == "__main__":
    unittest.main()
