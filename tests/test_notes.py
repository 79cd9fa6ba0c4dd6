"""Point 12: stores as texts."""

import copy
import unittest

import model
from aisleshift import notes
from aisleshift.errors import AisleError, BadStore, BadText
from aisleshift.notes import read, written
from aisleshift.stores import Store

TEXT = """store 2
shelf 4 2 0
shelf 9 0 1
fetch 0 right 0 1 -
bring 1 any 1 3 0
bring 1 left 0 0 0,1"""

PARTS = ([(4, 2, 0), (9, 0, 1)], 2, [
    ("fetch", 0, "right", 0, 1, ()), ("bring", 1, "any", 1, 3, (0,)),
    ("bring", 1, "left", 0, 0, (0, 1))])

STORE_ROW = "store 0"
SHELF_ROW = "shelf 1 1 0"
WISH_ROW = "fetch 0 any 0 0 -"

# Bad wherever they stand.
BAD_ROWS = [
    "", " ", "  ", "-", "0", ",", "x", "stor", "Store 0", "STORE 0", "stores 0", "row 0",
    "store", "store ", "store 0 ", " store 0", "store  0", "store 0 0", "store -", "store -1",
    "store 10", "store 00", "store x", "store +1", "store 1.", "store 0,1", "store0",
    "shelf", "shelf 1", "shelf 1 1", "shelf 1 1 0 0", "shelf 1 1  0", "shelf  1 1 0",
    "shelf 1 1 0 ", " shelf 1 1 0", "Shelf 1 1 0", "shelves 1 1 0", "shelf 10 1 0",
    "shelf 1 01 0", "shelf 1 1 x", "shelf 1 1 -", "shelf -1 1 0", "shelf 1 1 0-", "shelf 1,1 0",
    "shelf x 1 0", "shelf 1 x 0", "shelf any 1 0", "shelf 1 1 no",
    "fetch", "bring", "fetch 0 any 0 0", "fetch 0 any 0 0 ", "fetch 0 any 0 0  -",
    "fetch 0 any 0 0 - ", " fetch 0 any 0 0 -", "fetch  0 any 0 0 -", "fetch 0 any 0 0 - -",
    "Fetch 0 any 0 0 -", "steal 0 any 0 0 -", "fetch 0 both 0 0 -", "fetch 0 Left 0 0 -",
    "fetch 0 lef 0 0 -", "fetch 0  0 0 -", "fetch 0 0 0 0 -", "fetch x any 0 0 -",
    "fetch 10 any 0 0 -", "fetch -1 any 0 0 -", "fetch - any 0 0 -", "fetch 0 any x 0 -",
    "fetch 0 any 00 0 -", "fetch 0 any -1 0 -", "fetch 0 any 0 x -", "fetch 0 any 0 12 -",
    "fetch 0 any 0 -1 -", "fetch 0 any 0 0 x", "fetch 0 any 0 0 --", "fetch 0 any 0 0 10",
    "fetch 0 any 0 0 -1", "fetch 0 any 0 0 ,", "fetch 0 any 0 0 0,", "fetch 0 any 0 0 ,0",
    "fetch 0 any 0 0 0,,1", "fetch 0 any 0 0 0,-", "fetch 0 any 0 0 -,0", "fetch 0 any 0 0 0, 1",
    "fetch 0 any 0 0 0 1", "fetch 0 any 0 0 0;1", "fetch 0 any 0 0 0,x", "fetch 0 any 0 0 0,10",
    "fetch 0 any 0 0 01", "fetch any 0 0 0 -", "bring 0 any 0 0", "bring 0 right 0 0 0,1,",
    "bring 0 center 0 0 -", "bring 0 left 0 0 none", "bring 0 left 0 0 ()",
]


def refusal(text):
    """What the text is refused with, or None for a store's text."""
    try:
        read(text)
    except BadText as error:
        return error.row
    except BadStore as error:
        return (error.word, error.number)
    return None


def text_of(*rows):
    return "\n".join(rows)


def some_stores():
    shelf, wish = (9, 9, 1), ("bring", 4, "right", 1, 3, (0, 1, 2, 3, 4))
    return [Store(*model.made_parts(seed, 5, 5)) for seed in range(100)] + [
        Store([(0, 0, 0)], 0, []), Store([(0, 0, 0)], 1, []), Store([shelf] * 5, 5, [wish] * 5),
        Store([shelf] * 5, 0, []), Store(*PARTS)]


class WrittenTest(unittest.TestCase):

    def test_rows_and_words(self):
        self.assertEqual(written(Store(*PARTS)), TEXT)

    def test_smallest_and_largest(self):
        self.assertEqual(written(Store([(0, 0, 0)], 1, [])), "store 1\nshelf 0 0 0")
        wish = ("bring", 4, "right", 1, 3, (0, 1, 2, 3, 4))
        self.assertEqual(
            written(Store([(9, 9, 1)] * 5, 5, [wish] * 5)),
            text_of("store 5", *["shelf 9 9 1"] * 5, *["bring 4 right 1 3 0,1,2,3,4"] * 5))

    def test_after_itself(self):
        self.assertEqual(
            written(Store([(1, 1, 0)], 0, [("fetch", 0, "any", 0, 0, (0,))])),
            "store 0\nshelf 1 1 0\nfetch 0 any 0 0 0")

    def test_signs(self):
        for store in some_stores():
            self.assertTrue(all(sign == "\n" or " " <= sign <= "~" for sign in written(store)))


class ReadTest(unittest.TestCase):

    def test_what_is_written_is_read(self):
        for store in some_stores():
            told = read(written(store))
            self.assertIsInstance(told, Store)
            self.assertEqual(model.parts(told), model.parts(store))
            self.assertEqual(written(told), written(store))

    def test_rows_and_words(self):
        told = read(TEXT)
        self.assertEqual(model.parts(told), PARTS)
        for shelf in told.shelves():
            self.assertIs(type(shelf), tuple)
        for wish in told.wishes():
            self.assertIs(type(wish), tuple)
            self.assertIs(type(wish[5]), tuple)

    def test_each_figure(self):
        for figure in range(10):
            self.assertEqual(read(text_of(STORE_ROW, f"shelf 9 {figure} 0")).shelves(),
                             [(9, figure, 0)])
        for side in ("left", "right", "any"):
            for kind in ("fetch", "bring"):
                told = read(text_of(STORE_ROW, SHELF_ROW, f"{kind} 0 {side} 1 2 -"))
                self.assertEqual(told.wishes(), [(kind, 0, side, 1, 2, ())])


class BadTextTest(unittest.TestCase):

    def test_bad_rows(self):
        for row in BAD_ROWS:
            with self.subTest(row=row):
                self.assertEqual(refusal(row), 0)
                self.assertEqual(refusal(text_of(row, SHELF_ROW, WISH_ROW)), 0)
                self.assertEqual(refusal(text_of(STORE_ROW, row)), 1)
                self.assertEqual(refusal(text_of(STORE_ROW, row, SHELF_ROW)), 1)
                self.assertEqual(refusal(text_of(STORE_ROW, SHELF_ROW, row)), 2)
                self.assertEqual(refusal(text_of(STORE_ROW, SHELF_ROW, WISH_ROW, row)), 3)
                self.assertEqual(refusal(text_of(STORE_ROW, SHELF_ROW, WISH_ROW, row, row)), 3)

    def test_no_row(self):
        self.assertEqual(refusal(""), 0)
        self.assertEqual(refusal("\n"), 0)
        self.assertEqual(refusal("\n" + TEXT), 0)

    def test_empty_rows(self):
        rows = TEXT.split("\n")
        for at in range(len(rows) + 1):
            self.assertEqual(refusal(text_of(*rows[:at], "", *rows[at:])), at)

    def test_line_end_at_the_end(self):
        self.assertEqual(refusal(TEXT + "\n"), 6)
        self.assertEqual(refusal(TEXT + "\n\n"), 6)
        self.assertEqual(refusal("store 0\n"), 1)

    def test_blank_too_many(self):
        rows = TEXT.split("\n")
        for at, row in enumerate(rows):
            for place in range(len(row) + 1):
                put = row[:place] + " " + row[place:]
                self.assertEqual(refusal(text_of(*rows[:at], put, *rows[at + 1:])), at)

    def test_sign_left_out(self):
        # There is none without which a row of this text would still be one.
        rows = TEXT.split("\n")
        for at, row in enumerate(rows):
            for place in range(len(row)):
                put = row[:place] + row[place + 1:]
                self.assertEqual(refusal(text_of(*rows[:at], put, *rows[at + 1:])), at)

    def test_shelf_behind_a_wish(self):
        self.assertEqual(refusal(text_of(STORE_ROW, SHELF_ROW, WISH_ROW, SHELF_ROW)), 3)
        self.assertEqual(refusal(text_of(STORE_ROW, WISH_ROW, SHELF_ROW)), 2)
        self.assertEqual(
            refusal(text_of(STORE_ROW, SHELF_ROW, WISH_ROW, WISH_ROW, SHELF_ROW, WISH_ROW)), 4)

    def test_second_store(self):
        self.assertEqual(refusal(text_of(STORE_ROW, STORE_ROW)), 1)
        self.assertEqual(refusal(text_of(STORE_ROW, SHELF_ROW, STORE_ROW)), 2)
        self.assertEqual(refusal(text_of(STORE_ROW, SHELF_ROW, WISH_ROW, "store 1")), 3)
        self.assertEqual(refusal(text_of(TEXT, TEXT)), 6)

    def test_first_row_of_another_kind(self):
        self.assertEqual(refusal(SHELF_ROW), 0)
        self.assertEqual(refusal(WISH_ROW), 0)
        self.assertEqual(refusal(text_of(SHELF_ROW, STORE_ROW)), 0)
        self.assertEqual(refusal(text_of(WISH_ROW, STORE_ROW, SHELF_ROW)), 0)

    def test_first_of_several(self):
        self.assertEqual(refusal(text_of(STORE_ROW, "shelf", STORE_ROW, "")), 1)
        self.assertEqual(refusal(text_of(STORE_ROW, WISH_ROW, SHELF_ROW, "wish")), 2)
        self.assertEqual(refusal(text_of(STORE_ROW, SHELF_ROW, STORE_ROW, "wish")), 2)
        self.assertEqual(refusal(text_of("store", "shelf", "wish")), 0)

    def test_bad_rows_are_ahead_of_bad_stores(self):
        self.assertEqual(refusal(text_of("store 9", "shelf 0 1 7", "fetch 9 any 9 9 9", "")), 3)
        self.assertEqual(refusal(text_of("store 9", "")), 1)
        self.assertEqual(refusal(text_of(STORE_ROW, *[SHELF_ROW] * 9, "shelf 1 1 no")), 10)

    def test_other_line_ends(self):
        self.assertEqual(refusal(TEXT.replace("\n", "\r\n")), 0)
        self.assertEqual(refusal(TEXT.replace("\n", "\r")), 0)

    def test_refusal_is_an_aisle_error(self):
        with self.assertRaises(AisleError):
            read("")


class BadStoreTest(unittest.TestCase):

    def test_no_store_by_its_numbers(self):
        for rows, told in (
            (["store 0"], ("shelves", 0)),
            (["store 0", WISH_ROW], ("shelves", 0)),
            (["store 0"] + [SHELF_ROW] * 6, ("shelves", 0)),
            (["store 0", "shelf 1 2 0"], ("shelf", 0)),
            (["store 0", SHELF_ROW, "shelf 1 1 2"], ("shelf", 1)),
            (["store 2", SHELF_ROW], ("aisle", 0)),
            (["store 9", SHELF_ROW, SHELF_ROW], ("aisle", 0)),
            (["store 0", SHELF_ROW] + [WISH_ROW] * 6, ("wishes", 0)),
            (["store 0", SHELF_ROW, "fetch 1 any 0 0 -"], ("wish", 0)),
            (["store 0", SHELF_ROW, WISH_ROW, "fetch 0 any 2 0 -"], ("wish", 1)),
            (["store 0", SHELF_ROW, WISH_ROW, "bring 0 left 0 4 -"], ("wish", 1)),
            (["store 0", SHELF_ROW, "bring 0 left 0 0 1"], ("wish", 0)),
            (["store 0", SHELF_ROW, WISH_ROW, "bring 0 left 0 0 1,0"], ("wish", 1)),
            (["store 0", SHELF_ROW, WISH_ROW, "bring 0 left 0 0 0,0"], ("wish", 1)),
            (["store 0", SHELF_ROW, "bring 0 left 0 0 0,1,2,3,4,5,6,7,8,9,0"], ("wish", 0)),
        ):
            self.assertEqual(refusal(text_of(*rows)), told)

    def test_first_of_several(self):
        self.assertEqual(refusal(text_of("store 9", WISH_ROW)), ("shelves", 0))
        self.assertEqual(
            refusal(text_of("store 9", "shelf 0 1 0", "fetch 9 any 0 0 -")), ("shelf", 0))
        self.assertEqual(refusal(text_of("store 9", SHELF_ROW, "fetch 9 any 0 0 -")), ("aisle", 0))
        self.assertEqual(
            refusal(text_of("store 1", SHELF_ROW, *["fetch 9 any 0 0 -"] * 6)), ("wishes", 0))

    def test_good_after_is_none(self):
        self.assertIsNone(refusal(text_of(STORE_ROW, SHELF_ROW, "fetch 0 any 0 0 0")))
        self.assertIsNone(refusal(text_of("store 1", SHELF_ROW, WISH_ROW, "fetch 0 any 0 0 0,1")))


class InterfaceTest(unittest.TestCase):

    def test_functions_stand_in_their_file(self):
        for name in ("written", "read"):
            self.assertEqual(getattr(notes, name).__module__, "aisleshift.notes")

    def test_arguments_by_name(self):
        self.assertEqual(written(store=read(text=TEXT)), TEXT)


class NothingIsKeptTest(unittest.TestCase):

    def test_store_is_not_changed(self):
        store = Store(*copy.deepcopy(PARTS))
        written(store)
        self.assertEqual(model.parts(store), PARTS)

    def test_told_stores_are_apart(self):
        one, other = read(TEXT), read("store 0\nshelf 1 1 0")
        one.shelves().clear()
        one.wishes().clear()
        self.assertEqual(model.parts(one), PARTS)
        self.assertEqual(model.parts(other), ([(1, 1, 0)], 0, []))
        self.assertEqual(model.parts(read(TEXT)), PARTS)


if __name__ == "__main__":
    unittest.main()
