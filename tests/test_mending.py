"""Points 10 and 11: plans that are mended."""

import copy
import unittest

import model
from aisleshift import mending
from aisleshift.errors import AisleError, BadStep, Barred
from aisleshift.mending import mended
from aisleshift.papers import least
from aisleshift.stores import Store
from model import LEFT, RIGHT, WAIT

IN, OUT, DO = ("in", 0), ("out", 0), ("do", 0)


def fetch(shelf, side="any", crew=0, keep=0, after=()):
    return ("fetch", shelf, side, crew, keep, after)


def bring(shelf, side="any", crew=0, keep=0, after=()):
    return ("bring", shelf, side, crew, keep, after)


def late(wish):
    return ("late", wish)


def sticks(shelf):
    return ("sticks", shelf)


def two_shelves():
    return Store([(4, 2, 0), (4, 0, 0)], 2, [fetch(0, "right")])


PLAN = [LEFT, IN, DO, OUT]

# With a plan for each; some end, some don't, and some are barred in the end.
PLANNED = [
    (Store([(2, 1, 0), (2, 1, 0)], 1, []), []),
    (Store([(2, 1, 0), (2, 1, 0)], 1, []), [LEFT, RIGHT, ("in", 1), WAIT]),
    (two_shelves(), PLAN),
    (two_shelves(), [LEFT, LEFT, RIGHT, IN, WAIT, DO, OUT, OUT, DO]),
    (Store([(1, 1, 0), (2, 1, 0), (1, 0, 0)], 1,
           [fetch(0, "left", 0, 3), bring(1, "right", 1, 1, (0,)), bring(2, "any", 0, 2)]),
     [LEFT, IN, DO, OUT, WAIT, WAIT, RIGHT, RIGHT, IN, ("in", 1), ("do", 2), ("do", 1)]),
    (Store([(9, 5, 0), (1, 1, 1)], 0, [fetch(0), fetch(0), bring(0), fetch(1, "left"), fetch(0)]),
     [IN, ("do", 4), DO, OUT, RIGHT, IN, ("do", 3), ("do", 1), OUT, ("do", 2)]),
]

CHANGES = [
    sticks(0), sticks(1), late(fetch(0)), late(bring(1, "right", 1, 3)), late(fetch(1, "left")),
    late(bring(0, "left", 1, 1)), late(fetch(0, "any", 1, 2)),
]

NO_CHANGES = [
    # Another word, and the right words in the other's place.
    ("", 0), ("Late", fetch(0)), ("stick", 0), ("stuck", fetch(0)), ("wait", 0), ("do", fetch(0)),
    ("sticks", fetch(0)), ("late", 0), ("shelf", 1), ("fetch", fetch(0)),
    # No second thing.
    ("late",), ("sticks",), ("wait",), ("",),
    # A number more.
    ("late", fetch(0), 0), ("sticks", 0, 0), ("sticks", 0, 1), ("late", fetch(0), 3),
    # A shelf that isn't there.
    ("sticks", -1), ("sticks", 2), ("sticks", 3), ("sticks", 5), ("sticks", -2),
    # A part of the wish out of its limits; its number would be 1.
    late(fetch(-1)), late(fetch(2)), late(fetch(5)), late(fetch(0, "both")), late(fetch(0, "")),
    late(fetch(0, "any", 2)), late(fetch(0, "any", -1)), late(fetch(0, "any", 0, 4)),
    late(fetch(0, "any", 0, -1)), late(fetch(0, after=(2,))), late(fetch(0, after=(-1,))),
    late(fetch(0, after=(1, 0))), late(fetch(0, after=(0, 0))), late(fetch(0, after=(0, 1, 2))),
    late(("steal", 0, "any", 0, 0, ())), late(("", 0, "any", 0, 0, ())),
    late(fetch(0)[:5]), late(fetch(0) + (0,)), late(()),
]

NO_STEPS = [("wish", 0), ("do", 1), ("do", -1), ("shift", 2), ("in", 2), ("out",), ("wait", 0), ()]


def refusal(store, plan, at, change):
    """The name of the refusal, with the values of a Barred, or None."""
    try:
        mended(store, plan, at, change)
    except BadStep:
        return "BadStep"
    except Barred as error:
        return (error.rule, error.number, error.at)
    return None


def changed_parts(store, change):
    shelves, _, wishes = model.parts(store)
    word, thing = change
    if word == "late":
        return shelves, wishes + [thing]
    shelves[thing] = shelves[thing][:2] + (1,)
    return shelves, wishes


class MendedTest(unittest.TestCase):

    def check(self, store, plan, at, change):
        """What is told, against a search of the test's own."""
        shelves, aisle, wishes = model.parts(store)
        now = model.play(shelves, wishes, (aisle, (), (), 0), plan[:at])
        shelves, wishes = changed_parts(store, change)
        costs = model.costs(shelves, wishes, now)
        told = mended(store, plan, at, change)
        self.assertIs(type(told), tuple)
        if costs[now] is None:
            self.assertEqual(told, ("none", model.paper_of(costs)))
            self.assertIs(type(told[1]), list)
            return told
        word, whole, shifts = told
        self.assertEqual(word, "plan")
        self.assertIs(type(whole), list)
        self.assertEqual(whole[:at], plan[:at])
        self.assertTrue(model.ends(wishes, model.play(shelves, wishes, now, whole[at:])))
        self.assertEqual(shifts, model.shifts_in(whole))
        self.assertEqual((model.shifts_in(whole[at:]), len(whole) - at), costs[now])
        return told

    def good_lengths(self, store, plan):
        """The numbers up to the first step that is barred."""
        shelves, aisle, wishes = model.parts(store)
        state, told = (aisle, (), (), 0), [0]
        for at, step in enumerate(plan):
            try:
                state = model.play(shelves, wishes, state, [step])
            except AssertionError:
                break
            told.append(at + 1)
        return told

    def test_each_change_at_each_step(self):
        words = []
        for store, plan in PLANNED:
            for at in self.good_lengths(store, plan):
                for change in CHANGES:
                    if change[0] == "sticks" or len(store.wishes()) < 5:
                        with self.subTest(store=model.parts(store), at=at, change=change):
                            words.append(self.check(store, plan, at, change)[0])
        self.assertEqual(set(words), {"plan", "none"})

    def test_made_stores(self):
        words = []
        for seed in range(60):
            store = Store(*model.made_parts(seed))
            told = least(store)
            plan = told[1] if told[0] == "plan" else [WAIT, IN, ("in", 1), WAIT, OUT]
            numbers = model.Numbers(seed)
            for at in (0, len(plan) // 2, len(plan)):
                shelf = numbers.below(len(store.shelves()))
                kind, side = numbers.of(("fetch", "bring")), numbers.of(("left", "right", "any"))
                wish = (kind, shelf, side, numbers.below(2), numbers.below(4), ())
                words.append(self.check(store, plan, at, late(wish))[0])
                words.append(self.check(store, plan, at, sticks(shelf))[0])
        self.assertGreater(words.count("plan"), 50)
        self.assertGreater(words.count("none"), 50)

    def test_late_wish_at_the_start(self):
        store = two_shelves()
        for plan in ([], PLAN):
            word, whole, shifts = mended(store, plan, 0, late(fetch(0, "right")))
            self.assertEqual((word, shifts, len(whole)), ("plan", 1, 5))
            word, whole, shifts = mended(store, plan, 0, late(fetch(0, "left")))
            self.assertEqual((word, shifts, len(whole)), ("plan", 2, 8))
            self.assertEqual(whole[:2], [LEFT, IN])

    def test_late_wish_behind_the_whole_plan(self):
        told = mended(two_shelves(), PLAN, 4, late(bring(1, "right", 1)))
        self.assertEqual(told, ("plan", PLAN + [RIGHT, ("in", 1), ("do", 1), ("out", 1)], 2))

    def test_plan_goes_on_from_the_steps_ahead(self):
        # They are no way with the least shifts, but they stand, and so do their shifts.
        ahead = [LEFT, LEFT, RIGHT]
        told = mended(two_shelves(), ahead + [WAIT, WAIT], 3, sticks(1))
        self.assertEqual(told, ("plan", ahead + [IN, DO, OUT], 3))

    def test_steps_behind_are_left(self):
        store = two_shelves()
        told = mended(store, PLAN + [RIGHT, LEFT], 4, sticks(0))
        self.assertEqual(told, ("plan", PLAN, 1))

    def test_who_is_inside_and_what_is_kept_is_so_yet(self):
        store = Store([(2, 2, 0)] * 2, 0, [fetch(0, "left", 0, 3)])
        plan = [IN, DO, OUT]
        told = mended(store, plan, 2, late(fetch(1, "left", 0)))
        self.assertEqual(told[0], "plan")
        self.assertEqual(told[1][:2], [IN, DO])
        self.assertEqual(told[1][-4:], [RIGHT, IN, ("do", 1), OUT])
        # Behind the wish three steps go by, in one of which the crew goes out.
        self.assertIn(OUT, told[1][2:5])
        self.assertEqual((told[2], len(told[1])), (1, 9))

    def test_wish_at_the_other_crew(self):
        told = mended(two_shelves(), PLAN, 2, late(fetch(0, "any", 1)))
        self.assertEqual((told[0], told[2], len(told[1])), ("plan", 1, 7))
        self.assertEqual(told[1][:2], PLAN[:2])

    def test_least_shifts_are_ahead_of_least_steps(self):
        store = Store([(3, 0, 1), (1, 0, 0)], 2, [bring(1, "right", 0, 3)])
        told = mended(store, [], 0, late(bring(0, "any", 1)))
        self.assertEqual((told[0], told[2], len(told[1])), ("plan", 1, 9))

    def test_late_wish_where_there_are_none_some_and_four(self):
        for many in range(5):
            store = Store([(9, 9, 0)], 0, [fetch(0)] * many)
            told = self.check(store, [], 0, late(fetch(0, "right")))
            self.assertEqual((told[0], told[2], len(told[1])), ("plan", 1, 4 + many))
            self.assertIn(("do", many), told[1])

    def test_sixth_wish(self):
        store = Store([(9, 9, 0)], 0, [fetch(0)] * 5)
        self.assertEqual(refusal(store, [], 0, late(fetch(0))), "BadStep")
        self.assertEqual(refusal(store, [IN], 1, late(fetch(0, after=(0,)))), "BadStep")
        self.assertIsNone(refusal(store, [], 0, sticks(0)))

    def test_late_wish_after_others(self):
        store = two_shelves()
        for at in range(5):
            word, whole, _ = self.check(store, PLAN, at, late(bring(1, "left", 1, 0, (0,))))
            self.assertEqual(word, "plan")
            self.assertLess(whole.index(DO), whole.index(("do", 1)))

    def test_late_wish_after_itself(self):
        store = two_shelves()
        for after in ((1,), (0, 1)):
            for at in range(5):
                word, paper = self.check(store, PLAN, at, late(fetch(0, after=after)))
                self.assertEqual(word, "none")
                self.assertEqual({number for _, number in paper}, {None})
        word, _ = self.check(Store([(1, 1, 0)], 0, []), [], 0, late(fetch(0, after=(0,))))
        self.assertEqual(word, "none")

    def test_late_wish_where_nothing_is_left(self):
        store = Store([(1, 1, 0)], 0, [fetch(0)])
        for at in range(4):
            self.assertEqual(self.check(store, [IN, DO, OUT], at, late(fetch(0)))[0], "none")
            self.assertEqual(self.check(store, [IN, DO, OUT], at, late(bring(0)))[0], "plan")

    def test_shelf_sticks_in_the_way(self):
        store = two_shelves()
        word, paper = self.check(store, PLAN, 0, sticks(1))
        self.assertEqual(word, "none")
        self.assertEqual({state[0] for state, _ in paper}, {2})
        # From then on alone: behind the shift the aisle is where it must be.
        for at in (1, 2, 3, 4):
            self.assertEqual(mended(store, PLAN, at, sticks(1)), ("plan", PLAN, 1))
        for at in range(5):
            self.assertEqual(mended(store, PLAN, at, sticks(0)), ("plan", PLAN, 1))

    def test_shelf_sticks_that_sticks_already(self):
        store = Store([(1, 1, 1), (1, 1, 0)], 1, [fetch(1, "right")])
        plan = [RIGHT, IN, DO, OUT]
        self.assertEqual(mended(store, plan, 0, sticks(0)), ("plan", plan, 1))
        self.assertEqual(mended(store, plan, 2, sticks(0)), ("plan", plan, 1))
        self.assertEqual(mended(store, plan, 0, sticks(1))[0], "none")

    def test_paper_is_of_the_states_from_then_on(self):
        store = Store([(1, 1, 1)], 0, [fetch(0, "left", 1, 2)])
        plan = [("in", 1), DO, ("out", 1)]
        # The state behind the wish stands, although no step from then on comes to it again.
        told = mended(store, plan, 2, late(fetch(0, "right")))
        self.assertEqual(told, ("none", [
            ((0, (0,), (), 0), None), ((0, (0,), (), 1), None), ((0, (0,), (0,), 0), None),
            ((0, (0,), (0, 1), 0), None), ((0, (0,), (0, 1), 1), None),
            ((0, (0,), (1,), 0), None), ((0, (0,), (1,), 1), None), ((0, (0,), (1,), 2), None)]))


class RefusalTest(unittest.TestCase):

    def test_no_step_anywhere(self):
        store = two_shelves()
        for step in NO_STEPS:
            for place in range(5):
                plan = PLAN[:place] + [step] + PLAN[place:]
                for at in range(len(plan) + 1):
                    self.assertEqual(refusal(store, plan, at, sticks(0)), "BadStep")

    def test_steps_are_the_stores_as_it_is_handed_in(self):
        # The late wish has number 1, but no step of the plan can name it yet.
        self.assertEqual(refusal(two_shelves(), PLAN + [("do", 1)], 4, late(fetch(0))), "BadStep")
        self.assertEqual(refusal(two_shelves(), PLAN + [("do", 1)], 0, late(fetch(0))), "BadStep")

    def test_no_change(self):
        store = two_shelves()
        for change in NO_CHANGES:
            for at in range(5):
                with self.subTest(change=change):
                    self.assertEqual(refusal(store, PLAN, at, change), "BadStep")

    def test_limits_of_a_change(self):
        store = Store([(9, 5, 0)] * 5, 2, [fetch(0)] * 4)
        for shelf in range(-2, 8):
            told = None if 0 <= shelf <= 4 else "BadStep"
            self.assertEqual(refusal(store, [], 0, sticks(shelf)), told)
            self.assertEqual(refusal(store, [], 0, late(fetch(shelf, after=(4,)))), told)
        for number in range(-2, 8):
            told = None if 0 <= number <= 4 else "BadStep"
            self.assertEqual(refusal(store, [], 0, late(fetch(0, after=(number,)))), told)
        for crew in range(-2, 5):
            told = None if crew in (0, 1) else "BadStep"
            self.assertEqual(refusal(store, [], 0, late(fetch(0, "any", crew, 0, (4,)))), told)
        for keep in range(-2, 7):
            told = None if 0 <= keep <= 3 else "BadStep"
            self.assertEqual(refusal(store, [], 0, late(fetch(0, "any", 0, keep, (4,)))), told)

    def test_another_number(self):
        store = two_shelves()
        for plan in ([], [LEFT], PLAN):
            for at in range(-3, len(plan) + 4):
                told = None if 0 <= at <= len(plan) else "BadStep"
                self.assertEqual(refusal(store, plan, at, sticks(0)), told)

    def test_barred_ahead(self):
        store = two_shelves()
        for plan, told in (
            ([RIGHT], ("end", 2, 0)),
            ([WAIT, OUT, RIGHT], ("isnt", 0, 1)),
            ([LEFT, IN, IN, DO], ("is", 0, 2)),
            ([LEFT, IN, RIGHT], ("in", 0, 2)),
            ([LEFT, DO], ("crew", 0, 1)),
            ([IN, DO], ("aisle", 2, 1)),
            ([LEFT, IN, DO, DO], ("done", 0, 3)),
        ):
            _, _, place = told
            for at in range(place + 1):
                self.assertIsNone(refusal(store, plan, at, sticks(0)))
            for at in range(place + 1, len(plan) + 1):
                self.assertEqual(refusal(store, plan, at, sticks(0)), told)
                self.assertEqual(refusal(store, plan, at, late(fetch(0))), told)

    def test_ahead_is_barred_by_the_store_as_it_is_handed_in(self):
        # Shelf 1 sticks from then on, not yet when it was shifted.
        self.assertIsNone(refusal(two_shelves(), [LEFT, RIGHT, LEFT], 3, sticks(1)))
        store = Store([(1, 1, 0), (1, 1, 1)], 1, [fetch(0)])
        self.assertEqual(refusal(store, [WAIT, RIGHT], 2, sticks(0)), ("sticks", 1, 1))
        kept = Store([(1, 1, 0)], 0, [fetch(0, "any", 0, 3)])
        self.assertEqual(refusal(kept, [IN, DO, OUT, RIGHT], 4, sticks(0)), ("kept", 2, 3))

    def test_barred_behind_is_left(self):
        store = two_shelves()
        plan = PLAN + [OUT, DO, RIGHT, RIGHT]
        for at in range(5):
            self.assertEqual(mended(store, plan, at, sticks(0)), ("plan", PLAN, 1))

    def test_bad_steps_are_ahead_of_barred(self):
        store = two_shelves()
        barred = [RIGHT, OUT, DO]
        self.assertEqual(refusal(store, barred, 3, sticks(0)), ("end", 2, 0))
        self.assertEqual(refusal(store, barred + [("do", 1)], 3, sticks(0)), "BadStep")
        self.assertEqual(refusal(store, barred, 4, sticks(0)), "BadStep")
        self.assertEqual(refusal(store, barred, -1, sticks(0)), "BadStep")
        for change in NO_CHANGES:
            self.assertEqual(refusal(store, barred, 3, change), "BadStep")

    def test_refusals_are_aisle_errors(self):
        for plan, at, change in ((PLAN, 9, sticks(0)), ([RIGHT], 1, sticks(0)), (PLAN, 0, ("x", 0))):
            with self.assertRaises(AisleError):
                mended(two_shelves(), plan, at, change)


class InterfaceTest(unittest.TestCase):

    def test_function_stands_in_its_file(self):
        self.assertEqual(mending.mended.__module__, "aisleshift.mending")

    def test_arguments_by_name(self):
        told = mended(change=sticks(0), at=1, plan=PLAN, store=two_shelves())
        self.assertEqual(told, ("plan", PLAN, 1))


class NothingIsKeptTest(unittest.TestCase):

    def test_handed_in_is_not_changed(self):
        store = two_shelves()
        before = copy.deepcopy(model.parts(store))
        for change in CHANGES + NO_CHANGES:
            for plan in (PLAN, PLAN + [OUT], [RIGHT]):
                handed = list(plan)
                for at in range(-1, len(plan) + 2):
                    refusal(store, handed, at, change)
                self.assertEqual(handed, plan)
        self.assertEqual(model.parts(store), before)

    def test_handed_in_may_be_changed_later(self):
        plan = list(PLAN)
        _, whole, _ = mended(two_shelves(), plan, 4, sticks(0))
        plan.clear()
        self.assertEqual(whole, PLAN)

    def test_told_may_be_changed(self):
        store, plan = two_shelves(), list(PLAN)
        for at, change in ((4, sticks(0)), (0, sticks(1)), (2, late(fetch(0)))):
            first = mended(store, plan, at, change)
            kept = copy.deepcopy(first)
            first[1].reverse()
            first[1].append(WAIT)
            self.assertEqual(plan, PLAN)
            self.assertEqual(mended(store, plan, at, change), kept)

    def test_changes_do_not_stay(self):
        store = two_shelves()
        mended(store, PLAN, 0, sticks(1))
        mended(store, PLAN, 0, late(fetch(0)))
        self.assertEqual(mended(store, PLAN, 0, sticks(0)), ("plan", PLAN, 1))


if __name__ == "__main__":
    unittest.main()
