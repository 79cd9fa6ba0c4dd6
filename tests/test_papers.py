"""Points 8 and 9: papers, and plans with the least shifts."""

import copy
import unittest

import model
from aisleshift import papers
from aisleshift.papers import least, shows
from aisleshift.stores import Store
from model import LEFT, RIGHT, WAIT


def fetch(shelf, side="any", crew=0, keep=0, after=()):
    return ("fetch", shelf, side, crew, keep, after)


def bring(shelf, side="any", crew=0, keep=0, after=()):
    return ("bring", shelf, side, crew, keep, after)


# Each with the least shifts and, of plans with these, the least steps, counted by hand.
CAN_BE_DONE = [
    (Store([(1, 1, 0)], 0, []), 0, 0),
    (Store([(0, 0, 1)] * 5, 3, []), 0, 0),
    (Store([(4, 2, 0), (4, 0, 0)], 2, [fetch(0, "right")]), 1, 4),
    (Store([(4, 2, 0), (4, 0, 0)], 1, [fetch(0, "right")]), 0, 3),
    (Store([(4, 2, 0), (4, 0, 0)], 2, [fetch(0, "left")]), 2, 5),
    (Store([(4, 2, 0), (4, 0, 0)], 2, [fetch(0, "any")]), 1, 4),
    (Store([(1, 1, 0)] * 5, 0, [fetch(4, "right", 1)]), 5, 8),
    (Store([(1, 1, 0)] * 5, 5, [fetch(0, "left", 1)]), 5, 8),
    # Two crews in the same aisle, and one that does both wishes.
    (Store([(1, 1, 0)] * 2, 1, [fetch(0, "any", 0), fetch(1, "any", 1)]), 0, 6),
    (Store([(1, 1, 0)] * 2, 1, [fetch(0, "any", 1), fetch(1, "any", 1)]), 0, 4),
    # To the near end first, then to the far one.
    (Store([(1, 1, 0)] * 3, 1, [fetch(2, "right"), fetch(0, "left")]), 4, 10),
    # The far one must come first.
    (Store([(1, 1, 0)] * 3, 1, [fetch(2, "right"), fetch(0, "left", 0, 0, (0,))]), 5, 11),
    # A shelf is filled before it is emptied, or the other way round.
    (Store([(1, 0, 0), (1, 1, 0)], 0, [fetch(0), bring(0)]), 0, 4),
    (Store([(1, 1, 0), (1, 1, 0)], 0, [bring(0), fetch(0)]), 0, 4),
    # The aisle is kept for three steps: one goes out, two wait; or for one, to go out.
    (Store([(1, 1, 0)] * 2, 0, [fetch(0, "left", 0, 3), fetch(1, "any", 0, 0, (0,))]), 1, 9),
    (Store([(1, 1, 0)] * 2, 0, [fetch(0, "left", 0, 1), fetch(1, "any", 0, 0, (0,))]), 1, 7),
    # At an end the aisle may still be kept.
    (Store([(1, 1, 0)], 0, [fetch(0, "left", 0, 3)]), 0, 3),
    # By two shifts it would be done in 8 steps, with nothing to wait for.
    (Store([(3, 0, 1), (1, 0, 0)], 2, [bring(1, "right", 0, 3), bring(0, "any", 1)]), 1, 9),
    # The shelf that sticks isn't in the way, or the aisle stands beside it already.
    (Store([(1, 1, 1), (1, 1, 0), (1, 1, 0)], 1, [fetch(0, "right"), fetch(2, "any")]), 1, 7),
    (Store([(1, 1, 1)], 1, [fetch(0, "any")]), 0, 3),
    # Wish 2 ahead of the others comes to no end.
    (Store([(1, 1, 0)], 0, [fetch(0), bring(0, after=(0,)), fetch(0)]), 0, 5),
    (Store([(5, 5, 0)], 0, [fetch(0, after=(1,)), fetch(0, after=(2,)), fetch(0, after=(3,)),
                            fetch(0, after=(4,)), fetch(0)]), 0, 7),
]

CANNOT_BE_DONE = [
    # A wish that comes after itself, alone and beside another.
    Store([(1, 1, 0)], 0, [fetch(0, after=(0,))]),
    Store([(2, 2, 0)], 0, [fetch(0), fetch(0, after=(0, 1))]),
    # Wishes in a ring, of two and of three.
    Store([(2, 2, 0)], 0, [fetch(0, after=(1,)), fetch(0, after=(0,))]),
    Store([(3, 3, 0)], 0, [fetch(0, after=(2,)), fetch(0, after=(0,)), fetch(0, after=(1,))]),
    # A shelf that sticks in the way, on the one hand and on the other.
    Store([(1, 1, 1), (1, 1, 0)], 0, [fetch(1, "right")]),
    Store([(1, 1, 0), (1, 1, 1)], 2, [fetch(0, "any")]),
    Store([(1, 1, 1)], 0, [fetch(0, "right")]),
    # A shelf that is empty, full, or has no room.
    Store([(1, 0, 0)], 0, [fetch(0)]),
    Store([(1, 1, 0)], 0, [fetch(0), fetch(0)]),
    Store([(9, 9, 0)], 0, [bring(0)]),
    Store([(0, 0, 0)], 0, [bring(0)]),
    Store([(0, 0, 0)], 0, [fetch(0)]),
    # It can't be brought before it is fetched.
    Store([(1, 1, 0)], 0, [bring(0), fetch(0, after=(0,))]),
]

LARGEST = [
    Store([(9, 4, 0), (2, 1, 0), (1, 0, 0), (3, 3, 0), (5, 5, 0)], 2, [
        fetch(0, "left", 0, 3), bring(4, "right", 1, 2, (0,)), fetch(4, "any", 1, 1),
        bring(2, "left", 0, 0, (2,)), fetch(1, "right", 1, 3)]),
    Store([(1, 1, 0)] * 4 + [(1, 1, 1)], 4, [
        fetch(0, "left"), fetch(1, "left", 1, 1), fetch(2, "left", 0, 2), fetch(3, "left", 1, 3),
        fetch(4, "right")]),
]


def made_stores(many):
    return [Store(*model.made_parts(seed)) for seed in range(many)]


def first_of(store):
    return (store.aisle, (), (), 0)


def own_costs(store):
    shelves, _, wishes = model.parts(store)
    return model.costs(shelves, wishes, first_of(store))


def is_kept(store, paper):
    return model.is_kept(*model.parts(store), paper)


def paper_of(store):
    return least(store)[-1]


def altered(paper, at, *pairs):
    """A paper with these pairs in the place of one."""
    return paper[:at] + list(pairs) + paper[at + 1:]


class LeastTest(unittest.TestCase):

    def check(self, store):
        """What is told, against a search of the test's own."""
        shelves, _, wishes = model.parts(store)
        costs = own_costs(store)
        told = least(store)
        self.assertIs(type(told), tuple)
        self.assertEqual(told[-1], model.paper_of(costs))
        if costs[first_of(store)] is None:
            self.assertEqual(told, ("none", told[-1]))
            return told
        word, plan, shifts, _ = told
        self.assertEqual(word, "plan")
        self.assertIs(type(plan), list)
        self.assertTrue(model.ends(wishes, model.play(shelves, wishes, first_of(store), plan)))
        self.assertEqual(shifts, model.shifts_in(plan))
        self.assertEqual((shifts, len(plan)), costs[first_of(store)])
        return told

    def test_stores_that_can_be_done(self):
        for store, shifts, steps in CAN_BE_DONE:
            with self.subTest(store=model.parts(store)):
                word, plan, told, _ = self.check(store)
                self.assertEqual((word, told, len(plan)), ("plan", shifts, steps))

    def test_stores_that_cannot_be_done(self):
        for store in CANNOT_BE_DONE:
            with self.subTest(store=model.parts(store)):
                word, paper = self.check(store)
                self.assertEqual(word, "none")
                self.assertEqual({number for _, number in paper}, {None})

    def test_made_stores(self):
        words = [self.check(store)[0] for store in made_stores(200)]
        # There are many of both.
        self.assertGreater(words.count("plan"), 50)
        self.assertGreater(words.count("none"), 50)

    def test_largest_stores(self):
        self.assertEqual([self.check(store)[0] for store in LARGEST], ["plan", "none"])

    def test_plan_of_a_single_way(self):
        told = least(Store([(4, 2, 0), (4, 0, 0)], 2, [fetch(0, "right", 1)]))
        self.assertEqual(told[:3], ("plan", [LEFT, ("in", 1), ("do", 0), ("out", 1)], 1))
        told = least(Store([(1, 1, 0)] * 3, 0, [fetch(2, "left")]))
        self.assertEqual(told[:3], ("plan", [RIGHT, RIGHT, ("in", 0), ("do", 0), ("out", 0)], 2))

    def test_no_wishes(self):
        word, plan, shifts, paper = least(Store([(2, 1, 0)], 1, []))
        self.assertEqual((word, plan, shifts), ("plan", [], 0))
        # All states with nobody or somebody inside, at both ends: none is at a shift's distance.
        self.assertEqual(paper, [
            ((aisle, (), inside, 0), 0)
            for aisle in (0, 1) for inside in ((), (0,), (0, 1), (1,))])

    def test_paper_of_a_small_store(self):
        # The shelf sticks, and the aisle is kept for one step behind the wish.
        told = least(Store([(1, 1, 1)], 0, [fetch(0, "left", 1, 1)]))
        self.assertEqual(told[0], "plan")
        self.assertEqual(told[3], [
            ((0, (), (), 0), 0), ((0, (), (0,), 0), 0), ((0, (), (0, 1), 0), 0),
            ((0, (), (1,), 0), 0),
            ((0, (0,), (), 0), 0), ((0, (0,), (0,), 0), 0), ((0, (0,), (0, 1), 0), 0),
            ((0, (0,), (0, 1), 1), 0), ((0, (0,), (1,), 0), 0), ((0, (0,), (1,), 1), 0)])

    def test_paper_of_a_store_with_shifts(self):
        told = least(Store([(1, 1, 0)] * 2, 0, [fetch(1, "right", 0, 0)]))
        self.assertEqual(told[3], [
            ((aisle, done, inside, 0), 0 if done else 2 - aisle)
            for aisle in (0, 1, 2) for done in ((), (0,))
            for inside in ((), (0,), (0, 1), (1,))])

    def test_paper_of_a_store_that_can_fail(self):
        store = Store([(1, 1, 0)], 0, [fetch(0), bring(0, after=(0,)), fetch(0)])
        numbers = dict(paper_of(store))
        self.assertEqual(numbers[(0, (), (), 0)], 0)
        self.assertIsNone(numbers[(0, (2,), (0,), 0)])
        self.assertIsNone(numbers[(1, (2,), (), 0)])

    def test_paper_rises_and_is_of_pairs(self):
        for store in made_stores(40):
            paper = paper_of(store)
            states = [state for state, _ in paper]
            self.assertIs(type(paper), list)
            self.assertTrue(all(one < other for one, other in zip(states, states[1:])))
            self.assertEqual({(type(pair), len(pair)) for pair in paper}, {(tuple, 2)})

    def test_what_is_told_is_shown(self):
        for store in made_stores(80) + LARGEST:
            told = least(store)
            if told[0] == "none":
                self.assertIs(shows(store, told[1], None), True)
                self.assertIs(shows(store, told[1], 0), True)
                self.assertIs(shows(store, told[1], 99), True)
            else:
                self.assertIs(shows(store, told[3], told[2]), True)
                self.assertIs(shows(store, told[3], told[2] + 1), False)
                self.assertIs(shows(store, told[3], None), False)


class ManyTest(unittest.TestCase):
    """What a paper that is kept shows."""

    def test_up_to_the_first_states_number(self):
        for store, shifts, _ in CAN_BE_DONE:
            paper = paper_of(store)
            for many in range(shifts + 3):
                self.assertIs(shows(store, paper, many), many <= shifts)
            self.assertIs(shows(store, paper, None), False)

    def test_none_at_the_first_state(self):
        for store in CANNOT_BE_DONE:
            for many in (0, 1, 7, None):
                self.assertIs(shows(store, paper_of(store), many), True)

    def test_number_where_there_could_be_none(self):
        # A paper may say less than it could.
        for store in CANNOT_BE_DONE:
            paper = [(state, 3) for state, _ in paper_of(store)]
            for many, told in ((0, True), (2, True), (3, True), (4, False), (None, False)):
                self.assertIs(shows(store, paper, many), told)

    def test_lowered_throughout(self):
        for store, shifts, _ in CAN_BE_DONE:
            for less in (1, 2, 9):
                paper = [(state, None if number is None else number - less)
                         for state, number in paper_of(store)]
                self.assertTrue(is_kept(store, paper))
                for many in range(shifts + 2):
                    self.assertIs(shows(store, paper, many), many <= shifts - less)
                self.assertIs(shows(store, paper, None), False)

    def test_raised_throughout(self):
        for store, _, _ in CAN_BE_DONE:
            paper = [(state, None if number is None else number + 1)
                     for state, number in paper_of(store)]
            self.assertIs(shows(store, paper, 0), False)

    def test_none_throughout(self):
        for store, _, _ in CAN_BE_DONE:
            paper = [(state, None) for state, _ in paper_of(store)]
            for many in (0, 1, None):
                self.assertIs(shows(store, paper, many), False)

    def test_order_of_the_pairs_is_free(self):
        for store, shifts, _ in CAN_BE_DONE:
            paper = paper_of(store)[::-1]
            self.assertIs(shows(store, paper, shifts), True)
            self.assertIs(shows(store, paper, shifts + 1), False)


class KeptTest(unittest.TestCase):
    """Papers that are altered at one state, against the words of point 8."""

    def stores(self):
        # Small ones, since each state of each is altered in several ways.
        told = [store for store, _, _ in CAN_BE_DONE] + CANNOT_BE_DONE + made_stores(40)
        return [store for store in told if len(paper_of(store)) <= 70]

    def check(self, store, paper):
        kept = is_kept(store, paper)
        number = dict(paper).get(first_of(store))
        for many in (0, 1, 2, 3, None):
            enough = number is None or (many is not None and number >= many)
            self.assertIs(shows(store, paper, many), kept and enough)
        return kept

    def test_empty_paper(self):
        for store in self.stores():
            for many in (0, None):
                self.assertIs(shows(store, [], many), False)

    def test_number_greater(self):
        for store in self.stores():
            paper = paper_of(store)
            for at, (state, number) in enumerate(paper):
                if number is not None:
                    for more in (1, 2):
                        self.assertIs(
                            self.check(store, altered(paper, at, (state, number + more))), False)

    def test_number_less(self):
        for store in self.stores():
            paper = paper_of(store)
            for at, (state, number) in enumerate(paper):
                if number is not None:
                    for less in (1, 5):
                        self.check(store, altered(paper, at, (state, number - less)))

    def test_number_less_by_hand(self):
        # Wish 2 ahead of the others costs a shift more, and its keep bars each other way there.
        store = Store([(1, 1, 0)], 1, [fetch(0, "right"), bring(0, after=(0,)),
                                       fetch(0, "right", 0, 1), bring(0, "left")])
        paper = paper_of(store)
        self.assertIs(shows(store, paper, 1), True)
        at = paper.index(((1, (2,), (0,), 1), 2))
        for number, told in ((3, False), (2, True), (1, True), (0, False), (None, False)):
            state = (1, (2,), (0,), 1)
            self.assertIs(shows(store, altered(paper, at, (state, number)), 1), told)

    def test_number_less_at_the_first_state(self):
        # From behind the shift one comes back to it: less by one is kept there, by two isn't.
        store = Store([(1, 1, 0)] * 2, 0, [fetch(1, "right")])
        paper = paper_of(store)
        at = paper.index(((0, (), (), 0), 2))
        self.assertIs(shows(store, altered(paper, at, ((0, (), (), 0), 1)), 0), False)
        lower = [(state, number - 1 if state[:2] == (0, ()) else number)
                 for state, number in paper]
        for many, told in ((1, True), (2, False), (None, False)):
            self.assertIs(shows(store, lower, many), told)

    def test_none_in_place_of_a_number(self):
        seen = []
        for store in self.stores():
            paper = paper_of(store)
            for at, (state, number) in enumerate(paper):
                if number is not None:
                    seen.append(self.check(store, altered(paper, at, (state, None))))
        # Where a number was, an end is come to: None is nowhere kept.
        self.assertEqual(set(seen), {False})

    def test_number_in_place_of_none(self):
        seen = []
        for store in self.stores():
            paper = paper_of(store)
            for at, (state, number) in enumerate(paper):
                if number is None:
                    for put in (-1, 0, 1, 7):
                        seen.append(self.check(store, altered(paper, at, (state, put))))
        self.assertIn(False, seen)

    def test_state_left_out(self):
        for store in self.stores():
            paper = paper_of(store)
            for at in range(len(paper)):
                left = altered(paper, at)
                # All were come to: one stands before the one that is missing, or it is the first.
                self.assertIs(self.check(store, left), False)

    def test_state_twice(self):
        for store in self.stores():
            paper = paper_of(store)
            for at, (state, number) in enumerate(paper):
                for other in (number, None, 0, 1, -1):
                    self.assertIs(self.check(store, paper + [(state, other)]), False)
                    self.assertIs(self.check(store, [(state, other)] + paper), False)

    def test_state_of_no_use(self):
        seen = []
        for store in [store for store in self.stores() if len(paper_of(store)) <= 30]:
            shelves, _, wishes = model.parts(store)
            paper = paper_of(store)
            come_to = dict(paper)
            for state in model.all_states(shelves, wishes):
                if state not in come_to:
                    for number in (None, -1, 0, 1):
                        put = paper + [(state, number)]
                        seen.append(is_kept(store, put))
                        many = come_to[first_of(store)]
                        self.assertIs(shows(store, put, many), seen[-1])
        self.assertEqual(set(seen), {True, False})

    def test_state_of_no_use_by_hand(self):
        # Nothing is kept in this store: no step comes to a state with 1, but from it to the others.
        store = Store([(1, 1, 0)], 0, [fetch(0, "left")])
        paper = paper_of(store)
        for state, number, told in (
            ((0, (), (), 1), 0, True), ((0, (), (), 1), -4, True), ((0, (), (), 1), 1, False),
            ((0, (), (), 1), None, False), ((1, (), (), 1), 1, True), ((1, (), (), 1), 2, False),
            ((0, (0,), (), 1), 0, True), ((0, (0,), (), 1), 1, False),
            ((0, (0,), (), 1), None, False),
            # Behind waiting there would be another one that doesn't stand.
            ((0, (), (), 2), 0, False), ((0, (), (), 3), 0, False),
        ):
            self.assertIs(shows(store, paper + [(state, number)], 0), told)
            self.assertIs(shows(store, [(state, number)] + paper, 0), told)

    def test_all_states_of_the_form(self):
        for store in self.stores():
            shelves, _, wishes = model.parts(store)
            numbers = dict(paper_of(store))
            for other in (None, 0, -3):
                paper = [(state, numbers.get(state, other))
                         for state in model.all_states(shelves, wishes)]
                self.check(store, paper)

    def test_end_with_less_than_none(self):
        store = Store([(1, 1, 1)], 0, [])
        states = [(0, (), inside, 0) for inside in ((), (0,), (0, 1), (1,))]
        for number, told in ((0, True), (-1, True), (1, False), (None, False)):
            self.assertIs(shows(store, [(state, number) for state in states], 0),
                          told and number >= 0)
            self.assertIs(is_kept(store, [(state, number) for state in states]), told)
        # Where one is inside it is no end, but one step from there to an end.
        paper = [(states[0], 0)] + [(state, 1) for state in states[1:]]
        self.assertIs(shows(store, paper, 0), False)
        paper = [(states[0], -1)] + [(state, -1) for state in states[1:]]
        self.assertIs(shows(store, paper, 0), False)

    def test_shift_adds_one_and_other_steps_none(self):
        store = Store([(1, 1, 0)], 0, [fetch(0, "right")])
        paper = [(state, 0 if state[1] or state[0] == 1 else 1) for state, _ in paper_of(store)]
        self.assertEqual(paper, paper_of(store))
        self.assertIs(shows(store, paper, 1), True)
        for aisle, done, inside in ((0, (), (0,)), (1, (), (1,)), (1, (0,), (0,))):
            more = [(state, number + 1 if state[:3] == (aisle, done, inside) else number)
                    for state, number in paper]
            self.assertNotEqual(more, paper)
            self.assertIs(shows(store, more, 1), False)

    def test_paper_of_another_store(self):
        one = Store([(1, 1, 0)] * 2, 0, [fetch(1, "right")])
        for other, told in (
            # The same states are come to, wherever the aisle is at first.
            (Store([(1, 1, 0)] * 2, 1, [fetch(1, "right")]), True),
            (Store([(1, 1, 0)] * 2, 0, [fetch(1, "left")]), False),
            (Store([(1, 1, 0)] * 2, 0, [fetch(1, "right", 0, 1)]), True),
            (Store([(1, 1, 0)] * 2, 0, []), False),
            (Store([(1, 1, 0), (1, 1, 1)], 0, [fetch(1, "right")]), False),
        ):
            self.check(one, paper_of(other))
            self.assertIs(shows(one, paper_of(other), 2), told)

    def test_states_beyond_the_store_are_no_error(self):
        store = Store([(1, 1, 0)], 0, [fetch(0, "left")])
        for state in ((2, (), (), 0), (-1, (), (0,), 0), (0, (1,), (0,), 0), (0, (), (2,), 0),
                      (0, (), (), 4)):
            self.assertIn(shows(store, paper_of(store) + [(state, 0)], 0), (True, False))


class InterfaceTest(unittest.TestCase):

    def test_functions_stand_in_their_file(self):
        for name in ("least", "shows"):
            self.assertEqual(getattr(papers, name).__module__, "aisleshift.papers")

    def test_arguments_by_name(self):
        store = Store([(1, 1, 0)], 1, [fetch(0, "left")])
        word, _, shifts, paper = least(store=store)
        self.assertEqual((word, shifts), ("plan", 1))
        self.assertIs(shows(store=store, paper=paper, many=1), True)
        self.assertIs(shows(store, many=2, paper=paper), False)


class NothingIsKeptTest(unittest.TestCase):

    def test_handed_in_is_not_changed(self):
        for store in (CAN_BE_DONE[2][0], CANNOT_BE_DONE[1]):
            before = copy.deepcopy(model.parts(store))
            paper = paper_of(store)
            self.assertEqual(model.parts(store), before)
            for handed in (paper, paper[::-1], paper[1:], paper + paper[:1]):
                kept = copy.deepcopy(handed)
                for many in (0, 1, None):
                    shows(store, handed, many)
                self.assertEqual(handed, kept)
            self.assertEqual(model.parts(store), before)

    def test_told_may_be_changed(self):
        for store in (CAN_BE_DONE[2][0], CANNOT_BE_DONE[1]):
            first = least(store)
            kept = copy.deepcopy(first)
            for part in first:
                if isinstance(part, list):
                    part.reverse()
                    part.append(WAIT)
            self.assertEqual(least(store), kept)

    def test_paper_may_be_changed_between(self):
        store = CAN_BE_DONE[2][0]
        paper = paper_of(store)
        self.assertIs(shows(store, paper, 1), True)
        last = paper.pop()
        self.assertIs(shows(store, paper, 1), False)
        paper.append(last)
        self.assertIs(shows(store, paper, 1), True)


if __name__ == "__main__":
    unittest.main()
