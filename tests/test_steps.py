"""Points 4 to 7: states, steps, what bars them, and plans that are played."""

import copy
import unittest
from itertools import product

from aisleshift import steps
from aisleshift.errors import AisleError, BadStep, Barred
from aisleshift.steps import barred, begin, is_end, played, shifts, steps_at
from aisleshift.stores import Store

WAIT = ("wait",)
LEFT = ("shift", -1)
RIGHT = ("shift", 1)

NO_STEPS = [
    (), ("",), ("Wait",), ("wait", 0), ("stay",), ("wish", 0), ("wait", "wait"),
    ("shift",), ("shift", 0), ("shift", 2), ("shift", -2), ("shift", 1, 1), ("shift", "left"),
    ("in",), ("in", -1), ("in", 2), ("in", 0, 0), ("in", "0"),
    ("out",), ("out", -1), ("out", 2), ("out", 1, 1), ("out", "1"),
    ("do",), ("do", -1), ("do", 2), ("do", 5), ("do", 0, 0), ("do", "0"), ("do", (0,)),
]


def small_store():
    """Three shelves, the last one stuck, and two wishes, one behind the other."""
    return Store(
        [(2, 1, 0), (1, 0, 0), (3, 3, 1)],
        1,
        [("fetch", 0, "right", 0, 2, ()), ("bring", 1, "any", 1, 0, (0,))],
    )


def some_stores():
    """Stores of several makes, for what holds of all states."""
    return [
        small_store(),
        Store([(0, 0, 0)], 0, []),
        Store([(1, 0, 0), (1, 1, 0)], 2, [
            ("bring", 0, "left", 0, 1, ()), ("fetch", 0, "right", 1, 3, ()),
            ("fetch", 1, "any", 0, 0, (0, 1))]),
        Store([(1, 1, 1), (2, 1, 0), (1, 1, 0)], 2, [
            ("fetch", 1, "left", 1, 0, ()), ("fetch", 1, "any", 0, 2, ()),
            ("bring", 1, "right", 0, 3, (1,)), ("bring", 1, "any", 1, 1, (0, 3))]),
    ]


def all_steps(store):
    return ([WAIT, LEFT, RIGHT, ("in", 0), ("in", 1), ("out", 0), ("out", 1)]
            + [("do", number) for number in range(len(store.wishes()))])


def come_to(store):
    """A plan to each state that steps come to."""
    plans = {begin(store): []}
    waiting = [begin(store)]
    while waiting:
        state = waiting.pop()
        for step in steps_at(store, state):
            plan = plans[state] + [step]
            told = played(store, plan)[-1]
            if told not in plans:
                plans[told] = plan
                waiting.append(told)
    return plans


def contents(store, done):
    """What each shelf has when these wishes are done, counted apart from the program."""
    told = [has for _, has, _ in store.shelves()]
    for number in done:
        kind, shelf = store.wishes()[number][:2]
        told[shelf] += {"fetch": -1, "bring": 1}[kind]
    return told


class InterfaceTest(unittest.TestCase):

    def test_functions_stand_in_their_file(self):
        for name in ("begin", "barred", "steps_at", "played", "shifts", "is_end"):
            self.assertEqual(getattr(steps, name).__module__, "aisleshift.steps")

    def test_arguments_by_name(self):
        store = small_store()
        state = begin(store=store)
        self.assertIsNone(barred(store=store, state=state, step=WAIT))
        self.assertIn(WAIT, steps_at(store=store, state=state))
        self.assertEqual(played(store=store, plan=[]), [state])
        self.assertEqual(shifts(store=store, plan=[LEFT]), 1)
        self.assertIs(is_end(store=store, state=state), False)


class BeginTest(unittest.TestCase):

    def test_nothing_is_done_and_nobody_inside(self):
        for aisle in range(4):
            store = Store([(1, 1, 0)] * 3, aisle, [("fetch", 0, "any", 0, 3, ())])
            self.assertEqual(begin(store), (aisle, (), (), 0))


class NoStepTest(unittest.TestCase):

    def test_no_step_is_refused(self):
        store = small_store()
        for step in NO_STEPS:
            with self.subTest(step=step):
                with self.assertRaises(BadStep):
                    barred(store, begin(store), step)
                with self.assertRaises(BadStep):
                    played(store, [WAIT, step])
                with self.assertRaises(BadStep):
                    shifts(store, [WAIT, step])

    def test_refusal_is_an_aisle_error(self):
        store = small_store()
        with self.assertRaises(AisleError):
            barred(store, begin(store), ("do", 2))

    def test_no_step_is_refused_where_it_would_be_barred(self):
        store = small_store()
        with self.assertRaises(BadStep):
            barred(store, (0, (0, 1), (0, 1), 3), ("shift", -2))
        with self.assertRaises(BadStep):
            barred(Store([(1, 1, 0)], 0, []), (0, (), (), 0), ("do", 0))

    def test_each_step_is_let_by(self):
        for store in some_stores():
            for step in all_steps(store):
                told = barred(store, begin(store), step)
                self.assertTrue(told is None or isinstance(told, tuple))
                self.assertEqual(shifts(store, [step]), 1 if step[0] == "shift" else 0)


class WaitTest(unittest.TestCase):

    def test_is_never_barred(self):
        for store in some_stores():
            for state in come_to(store):
                self.assertIsNone(barred(store, state, WAIT))

    def test_kept_is_one_less_down_to_none(self):
        store = Store([(1, 1, 0)], 0, [("fetch", 0, "any", 0, 3, ())])
        told = played(store, [WAIT, ("in", 0), ("do", 0), WAIT, WAIT, WAIT, WAIT])
        self.assertEqual([state[3] for state in told], [0, 0, 0, 3, 2, 1, 0, 0])


class ShiftTest(unittest.TestCase):

    def store(self, sticks=(0, 0, 0)):
        return Store([(1, 1, stuck) for stuck in sticks], 1, [])

    def test_moves_the_aisle(self):
        self.assertEqual(
            played(self.store(), [RIGHT, RIGHT, LEFT, LEFT, LEFT]),
            [(aisle, (), (), 0) for aisle in (1, 2, 3, 2, 1, 0)],
        )

    def test_end_and_the_aisle(self):
        store = self.store()
        self.assertEqual(barred(store, (0, (), (), 0), LEFT), ("end", 0))
        self.assertEqual(barred(store, (3, (), (), 0), RIGHT), ("end", 3))
        self.assertIsNone(barred(store, (0, (), (), 0), RIGHT))
        self.assertIsNone(barred(store, (1, (), (), 0), LEFT))
        self.assertIsNone(barred(store, (2, (), (), 0), RIGHT))
        self.assertIsNone(barred(store, (3, (), (), 0), LEFT))

    def test_end_of_the_smallest_and_the_largest_store(self):
        for many in (1, 5):
            store = Store([(0, 0, 0)] * many, 0, [])
            self.assertEqual(barred(store, (0, (), (), 0), LEFT), ("end", 0))
            self.assertEqual(barred(store, (many, (), (), 0), RIGHT), ("end", many))
            self.assertIsNone(barred(store, (many - 1, (), (), 0), RIGHT))

    def test_sticks_and_the_shelf(self):
        store = self.store((0, 1, 0))
        self.assertEqual(barred(store, (1, (), (), 0), RIGHT), ("sticks", 1))
        self.assertEqual(barred(store, (2, (), (), 0), LEFT), ("sticks", 1))
        self.assertIsNone(barred(store, (1, (), (), 0), LEFT))
        self.assertIsNone(barred(store, (2, (), (), 0), RIGHT))
        ends = self.store((1, 0, 1))
        self.assertEqual(barred(ends, (0, (), (), 0), RIGHT), ("sticks", 0))
        self.assertEqual(barred(ends, (3, (), (), 0), LEFT), ("sticks", 2))

    def test_in_and_the_first_crew(self):
        for inside, crew in (((0,), 0), ((1,), 1), ((0, 1), 0)):
            for step in (LEFT, RIGHT):
                self.assertEqual(barred(self.store(), (1, (), inside, 0), step), ("in", crew))

    def test_kept_and_kept(self):
        for kept in (1, 2, 3):
            for step in (LEFT, RIGHT):
                self.assertEqual(barred(self.store(), (1, (), (), kept), step), ("kept", kept))

    def test_first_of_several_rules(self):
        stuck, free = self.store((1, 1, 1)), self.store()
        self.assertEqual(barred(stuck, (0, (), (0, 1), 3), LEFT), ("end", 0))
        self.assertEqual(barred(stuck, (3, (), (1,), 2), RIGHT), ("end", 3))
        self.assertEqual(barred(stuck, (3, (), (), 2), RIGHT), ("end", 3))
        self.assertEqual(barred(stuck, (1, (), (1,), 2), LEFT), ("sticks", 0))
        self.assertEqual(barred(stuck, (1, (), (1,), 0), RIGHT), ("sticks", 1))
        self.assertEqual(barred(stuck, (1, (), (), 2), RIGHT), ("sticks", 1))
        self.assertEqual(barred(free, (1, (), (1,), 3), RIGHT), ("in", 1))


class CrewTest(unittest.TestCase):

    def test_is_and_isnt(self):
        store = small_store()
        for inside in ((), (0,), (1,), (0, 1)):
            for crew in (0, 1):
                # Neither the ends nor that the aisle is kept bars a crew.
                for aisle, kept in product(range(4), range(4)):
                    state = (aisle, (), inside, kept)
                    is_there = crew in inside
                    self.assertEqual(
                        barred(store, state, ("in", crew)), ("is", crew) if is_there else None)
                    self.assertEqual(
                        barred(store, state, ("out", crew)), None if is_there else ("isnt", crew))

    def test_inside_rises(self):
        plan = [("in", 1), ("in", 0), ("out", 1), ("in", 1), ("out", 0), ("out", 1)]
        told = [state[2] for state in played(small_store(), plan)]
        self.assertEqual(told, [(), (1,), (0, 1), (0,), (0, 1), (1,), ()])

    def test_kept_is_one_less_by_each_step(self):
        store = Store([(1, 1, 0)] * 2, 1, [("fetch", 0, "any", 0, 3, ())])
        plan = [("in", 0), ("do", 0), ("in", 1), ("out", 0), ("out", 1), LEFT, RIGHT]
        self.assertEqual([state[3] for state in played(store, plan)], [0, 0, 3, 2, 1, 0, 0, 0])


class WishTest(unittest.TestCase):

    def one(self, kind="fetch", shelf=1, side="any", crew=0, shelves=((2, 1, 0),) * 3):
        return Store(list(shelves), 1, [(kind, shelf, side, crew, 0, ())])

    def test_done_and_the_wish(self):
        store = small_store()
        self.assertEqual(barred(store, (1, (0,), (0, 1), 0), ("do", 0)), ("done", 0))
        self.assertEqual(barred(store, (1, (0, 1), (0, 1), 0), ("do", 1)), ("done", 1))

    def test_after_and_the_first_not_done(self):
        shelves = [(9, 4, 0)]
        wish = ("fetch", 0, "any", 0, 0, ())
        store = Store(shelves, 0, [wish] * 4 + [("fetch", 0, "any", 0, 0, (0, 2, 3))])
        for done, told in (
            ((), ("after", 0)), ((0,), ("after", 2)), ((1, 2, 3), ("after", 0)),
            ((0, 2), ("after", 3)), ((0, 1, 3), ("after", 2)), ((0, 2, 3), None),
        ):
            self.assertEqual(barred(store, (0, done, (0,), 0), ("do", 4)), told)

    def test_after_its_own_or_in_a_ring(self):
        wishes = [("bring", 0, "any", 0, 0, (1,)), ("bring", 0, "any", 0, 0, (0,)),
                  ("bring", 0, "any", 0, 0, (2,))]
        store = Store([(9, 0, 0)], 0, wishes)
        state = (0, (), (0, 1), 0)
        self.assertEqual(barred(store, state, ("do", 0)), ("after", 1))
        self.assertEqual(barred(store, state, ("do", 1)), ("after", 0))
        self.assertEqual(barred(store, state, ("do", 2)), ("after", 2))

    def test_crew_and_its_crew(self):
        for crew in (0, 1):
            store = self.one(crew=crew)
            for inside in ((), (0,), (1,), (0, 1)):
                told = None if crew in inside else ("crew", crew)
                self.assertEqual(barred(store, (1, (), inside, 0), ("do", 0)), told)

    def test_aisle_and_the_aisle(self):
        for shelf in range(3):
            for side, good in (("left", (shelf,)), ("right", (shelf + 1,)),
                               ("any", (shelf, shelf + 1))):
                store = self.one(shelf=shelf, side=side)
                for aisle in range(4):
                    told = None if aisle in good else ("aisle", aisle)
                    self.assertEqual(barred(store, (aisle, (), (0,), 0), ("do", 0)), told)

    def test_empty_and_the_shelf(self):
        shelves = ((2, 1, 0), (2, 0, 0), (2, 1, 0))
        store = self.one("fetch", shelves=shelves)
        self.assertEqual(barred(store, (1, (), (0,), 0), ("do", 0)), ("empty", 1))
        self.assertIsNone(barred(self.one("bring", shelves=shelves), (1, (), (0,), 0), ("do", 0)))

    def test_full_and_the_shelf(self):
        shelves = ((2, 1, 0), (2, 2, 0), (2, 1, 0))
        store = self.one("bring", shelves=shelves)
        self.assertEqual(barred(store, (1, (), (0,), 0), ("do", 0)), ("full", 1))
        self.assertIsNone(barred(self.one("fetch", shelves=shelves), (1, (), (0,), 0), ("do", 0)))

    def test_no_room_is_both_empty_and_full(self):
        shelves = ((0, 0, 0),) * 3
        state = (1, (), (0,), 0)
        self.assertEqual(barred(self.one("fetch", shelves=shelves), state, ("do", 0)), ("empty", 1))
        self.assertEqual(barred(self.one("bring", shelves=shelves), state, ("do", 0)), ("full", 1))

    def test_stuck_and_kept_do_not_bar(self):
        store = self.one(shelves=((2, 1, 1),) * 3)
        for kept in range(4):
            self.assertIsNone(barred(store, (1, (), (0,), kept), ("do", 0)))

    def test_shelf_has_what_is_done_at_it(self):
        fetch, bring = ("fetch", 0, "any", 0, 0, ()), ("bring", 0, "any", 0, 0, ())
        elsewhere = ("bring", 1, "any", 0, 0, ())
        store = Store([(2, 1, 0), (5, 1, 0)], 1, [fetch, fetch, bring, bring, elsewhere])
        inside = (0,)
        for done, wish, told in (
            ((), 1, None), ((0,), 1, ("empty", 0)), ((0, 4), 1, ("empty", 0)),
            ((0, 2), 1, None), ((2, 3), 1, None),
            ((), 3, None), ((2,), 3, ("full", 0)), ((2, 4), 3, ("full", 0)), ((0, 2), 3, None),
            ((0,), 3, None), ((0, 1, 2), 3, None),
        ):
            self.assertEqual(barred(store, (1, done, inside, 0), ("do", wish)), told)

    def test_first_of_several_rules(self):
        # Each rule is told although all later ones would bar the step, too.
        wishes = [("fetch", 2, "left", 1, 0, (0, 2)), ("bring", 3, "right", 1, 0, (1, 2)),
                  ("fetch", 0, "any", 0, 0, ())]
        store = Store([(1, 1, 0), (1, 1, 0), (1, 1, 0), (1, 0, 0)], 0, wishes)
        self.assertEqual(barred(store, (0, (0,), (0,), 1), ("do", 0)), ("done", 0))
        self.assertEqual(barred(store, (0, (1,), (0,), 1), ("do", 1)), ("done", 1))
        wishes = [("fetch", 2, "left", 1, 0, (0, 1)), ("bring", 2, "right", 1, 0, (0, 1))]
        shelves = [(1, 1, 0), (1, 1, 0), (0, 0, 0)]
        store = Store(shelves, 0, wishes)
        self.assertEqual(barred(store, (0, (), (0,), 1), ("do", 0)), ("after", 0))
        self.assertEqual(barred(store, (0, (), (0,), 1), ("do", 1)), ("after", 0))
        free = Store(shelves, 0, [wish[:5] + ((),) for wish in wishes])
        for wish in (0, 1):
            self.assertEqual(barred(free, (0, (), (0,), 1), ("do", wish)), ("crew", 1))
            self.assertEqual(barred(free, (1, (), (0, 1), 1), ("do", wish)), ("aisle", 1))
        self.assertEqual(barred(free, (2, (), (1,), 1), ("do", 0)), ("empty", 2))
        self.assertEqual(barred(free, (3, (), (1,), 1), ("do", 1)), ("full", 2))

    def test_done_rises_and_keep_is_taken_if_more(self):
        wishes = [("fetch", 0, "any", 0, keep, ()) for keep in (0, 1, 2, 3)]
        store = Store([(9, 9, 0)], 0, wishes)
        told = played(store, [("in", 0), ("do", 3), ("do", 1), ("do", 2), ("do", 0), WAIT, WAIT])
        self.assertEqual([state[1] for state in told[2:6]], [(3,), (1, 3), (1, 2, 3), (0, 1, 2, 3)])
        # Behind wish 1 the 3 of wish 3 is still 2; wish 2 has 2, which is more than 1.
        self.assertEqual([state[3] for state in told], [0, 0, 3, 2, 2, 1, 0, 0])

    def test_keep_as_much_as_is_left(self):
        wishes = [("fetch", 0, "any", 0, keep, ()) for keep in (3, 2, 3)]
        store = Store([(9, 9, 0)], 0, wishes)
        told = played(store, [("in", 0), ("do", 0), ("do", 1), ("do", 2)])
        self.assertEqual([state[3] for state in told], [0, 0, 3, 2, 3])


class StepsAtTest(unittest.TestCase):

    def test_order(self):
        wishes = [("fetch", 0, "any", 0, 0, ()), ("bring", 0, "any", 1, 0, ()),
                  ("fetch", 1, "any", 0, 0, ())]
        store = Store([(2, 1, 0)] * 2, 1, wishes)
        self.assertEqual(
            steps_at(store, (1, (), (), 0)), [WAIT, LEFT, RIGHT, ("in", 0), ("in", 1)])
        self.assertEqual(
            steps_at(store, (1, (), (0,), 0)),
            [WAIT, ("in", 1), ("out", 0), ("do", 0), ("do", 2)])
        self.assertEqual(
            steps_at(store, (1, (), (0, 1), 2)),
            [WAIT, ("out", 0), ("out", 1), ("do", 0), ("do", 1), ("do", 2)])

    def test_of_states_that_are_not_come_to(self):
        # The wish done is behind one that isn't, and the aisle is beyond stuck shelves.
        store = Store([(1, 1, 1)] * 3, 0, [("fetch", 2, "any", 1, 0, ()),
                                           ("fetch", 1, "any", 0, 1, (0,))])
        self.assertEqual(steps_at(store, (3, (1,), (1,), 3)),
                         [WAIT, ("in", 0), ("out", 1), ("do", 0)])
        self.assertEqual(steps_at(store, (2, (1,), (), 0)), [WAIT, ("in", 0), ("in", 1)])

    def test_all_that_are_not_barred(self):
        for store in some_stores():
            for state in come_to(store):
                told = [step for step in all_steps(store) if barred(store, state, step) is None]
                self.assertEqual(steps_at(store, state), told)


class PlayedTest(unittest.TestCase):

    def test_tells_all_states(self):
        plan = [("in", 0), ("do", 0), ("in", 1), ("do", 1), ("out", 1), ("out", 0), LEFT]
        self.assertEqual(played(small_store(), plan), [
            (1, (), (), 0), (1, (), (0,), 0), (1, (0,), (0,), 2), (1, (0,), (0, 1), 1),
            (1, (0, 1), (0, 1), 0), (1, (0, 1), (0,), 0), (1, (0, 1), (), 0), (0, (0, 1), (), 0),
        ])

    def test_no_steps(self):
        self.assertEqual(played(small_store(), []), [(1, (), (), 0)])

    def refusal(self, plan):
        with self.assertRaises(Barred) as caught:
            played(small_store(), plan)
        return (caught.exception.rule, caught.exception.number, caught.exception.at)

    def test_barred_of_the_first_barred_step(self):
        self.assertEqual(self.refusal([("do", 1)]), ("after", 0, 0))
        self.assertEqual(self.refusal([WAIT, LEFT, LEFT, ("out", 0)]), ("end", 0, 2))
        self.assertEqual(self.refusal([("in", 1), ("in", 1), ("in", 1)]), ("is", 1, 1))
        self.assertEqual(self.refusal([("in", 1), RIGHT]), ("in", 1, 1))
        self.assertEqual(self.refusal([RIGHT, RIGHT]), ("sticks", 2, 1))
        self.assertEqual(
            self.refusal([("in", 0), ("do", 0), ("out", 0), LEFT, WAIT, LEFT]), ("kept", 1, 3))

    def test_kept_lets_go_in_time(self):
        told = played(small_store(), [("in", 0), ("do", 0), ("out", 0), WAIT, LEFT])
        self.assertEqual(told[-1], (0, (0,), (), 0))

    def test_no_step_anywhere_is_ahead_of_barred(self):
        for step in NO_STEPS:
            with self.assertRaises(BadStep):
                played(small_store(), [("out", 1), WAIT, step])

    def test_numbers_of_wishes_are_the_stores(self):
        with self.assertRaises(BadStep):
            played(small_store(), [("do", 2)])
        self.assertEqual(self.refusal([("in", 1), ("do", 1)]), ("after", 0, 1))


class ShiftsTest(unittest.TestCase):

    def test_counts_shifts_only(self):
        plan = [WAIT, LEFT, ("in", 0), RIGHT, ("out", 0), ("do", 1), RIGHT]
        self.assertEqual(shifts(small_store(), plan), 3)
        self.assertEqual(shifts(small_store(), []), 0)
        self.assertEqual(shifts(small_store(), [WAIT, ("in", 1)]), 0)

    def test_barred_or_not(self):
        self.assertEqual(shifts(small_store(), [LEFT] * 9 + [("do", 0)] * 3 + [RIGHT]), 10)

    def test_no_step_is_refused_behind_barred_ones(self):
        for step in NO_STEPS:
            with self.assertRaises(BadStep):
                shifts(small_store(), [LEFT, LEFT, step, LEFT])


class EndTest(unittest.TestCase):

    def test_all_is_done_and_nobody_inside(self):
        store = small_store()
        for done in ((), (0,), (1,), (0, 1)):
            for inside in ((), (0,), (1,), (0, 1)):
                for aisle, kept in product(range(4), range(4)):
                    told = is_end(store, (aisle, done, inside, kept))
                    self.assertIs(told, done == (0, 1) and inside == ())

    def test_without_wishes(self):
        store = Store([(1, 1, 0)], 0, [])
        self.assertIs(is_end(store, begin(store)), True)
        self.assertIs(is_end(store, (0, (), (1,), 0)), False)


class HoldsEverywhereTest(unittest.TestCase):
    """The last sentence of point 7, over all states that steps come to."""

    def test_states_have_their_form(self):
        for store in some_stores():
            for aisle, done, inside, kept in come_to(store):
                self.assertIn(aisle, range(len(store.shelves()) + 1))
                self.assertEqual(done, tuple(sorted(set(done))))
                self.assertLessEqual(set(done), set(range(len(store.wishes()))))
                self.assertIn(inside, ((), (0,), (1,), (0, 1)))
                self.assertIn(kept, range(4))

    def test_each_shelf_has_from_none_to_its_room(self):
        for store in some_stores():
            for state in come_to(store):
                for (room, _, _), has in zip(store.shelves(), contents(store, state[1])):
                    self.assertIn(has, range(room + 1))

    def test_shelves_stand_while_they_must(self):
        for store in some_stores():
            for state in come_to(store):
                aisle, _, inside, kept = state
                for step in (LEFT, RIGHT):
                    if step in steps_at(store, state):
                        passed = store.shelves()[min(aisle, aisle + step[1])]
                        self.assertEqual((inside, kept, passed[2]), ((), 0, 0))

    def test_each_step_changes_only_its_part(self):
        for store in some_stores():
            for state, plan in come_to(store).items():
                for step in steps_at(store, state):
                    told = played(store, plan + [step])
                    self.assertEqual(told[-2], state)
                    self.assertEqual(told[-1], self.changed(store, state, step))

    def changed(self, store, state, step):
        """The state behind the step, written down apart from the program."""
        aisle, done, inside, kept = state
        left = kept - 1 if kept else 0
        if step == WAIT:
            return (aisle, done, inside, left)
        word, number = step
        if word == "shift":
            return (aisle + number, done, inside, left)
        if word == "in":
            return (aisle, done, {(): (number,)}.get(inside, (0, 1)), left)
        if word == "out":
            return (aisle, done, tuple(set(inside) - {number}), left)
        keep = store.wishes()[number][4]
        return (aisle, tuple(sorted(done + (number,))), inside, keep if keep > left else left)


class NothingIsKeptTest(unittest.TestCase):

    def test_handed_in_is_not_changed(self):
        store = small_store()
        before = copy.deepcopy((store.shelves(), store.aisle, store.wishes()))
        plan = [("in", 0), ("do", 0), ("out", 0)]
        state = (1, (0,), (), 1)
        played(store, plan)
        shifts(store, plan)
        steps_at(store, state)
        barred(store, state, RIGHT)
        is_end(store, state)
        with self.assertRaises(Barred):
            played(store, plan + [LEFT])
        self.assertEqual(plan, [("in", 0), ("do", 0), ("out", 0)])
        self.assertEqual(state, (1, (0,), (), 1))
        self.assertEqual((store.shelves(), store.aisle, store.wishes()), before)

    def test_plan_may_be_changed_later(self):
        plan = [LEFT, RIGHT]
        told = played(small_store(), plan)
        plan.clear()
        self.assertEqual([state[0] for state in told], [1, 0, 1])

    def test_told_may_be_changed(self):
        store = small_store()
        for _ in range(2):
            told = played(store, [LEFT])
            self.assertEqual(told, [(1, (), (), 0), (0, (), (), 0)])
            told.clear()
            told = steps_at(store, begin(store))
            self.assertEqual(told, [WAIT, LEFT, RIGHT, ("in", 0), ("in", 1)])
            told.reverse()
            told.pop()

    def test_lists_of_the_store_may_be_changed_later(self):
        shelves, wishes = [(1, 1, 0)], [("fetch", 0, "any", 0, 0, ())]
        store = Store(shelves, 0, wishes)
        shelves.append((1, 1, 0))
        wishes.clear()
        self.assertEqual(barred(store, (1, (), (), 0), RIGHT), ("end", 1))
        self.assertIsNone(barred(store, (0, (), (0,), 0), ("do", 0)))
        self.assertIs(is_end(store, begin(store)), False)


if __name__ == "__main__":
    unittest.main()
