"""States, steps, the rules that bar a step, and plans that are played."""

from aisleshift.errors import BadStep, Barred

# In the order in which steps_at tells them; the wishes follow.
STEPS_OF_ANY_STORE = (
    ("wait",),
    ("shift", -1),
    ("shift", 1),
    ("in", 0),
    ("in", 1),
    ("out", 0),
    ("out", 1),
)


def begin(store):
    """Tells the state at first."""
    return (store.aisle, (), (), 0)


def barred(store, state, step):
    """Tells the first rule that bars the step, with its number, or None."""
    refuse_no_steps(store, [step])
    return _bar(store, state, step)


def steps_at(store, state):
    """Tells all steps that aren't barred in the state."""
    return [step for step in _all_steps(store) if _bar(store, state, step) is None]


def played(store, plan):
    """Tells all states of the plan, the one at first too."""
    refuse_no_steps(store, plan)
    state = begin(store)
    states = [state]
    for at, step in enumerate(plan):
        bar = _bar(store, state, step)
        if bar is not None:
            rule, number = bar
            raise Barred(rule, number, at)
        state = behind(store, state, step)
        states.append(state)
    return states


def shifts(store, plan):
    """Tells how many shifts the steps have, barred or not."""
    refuse_no_steps(store, plan)
    return sum([shifts_of(step) for step in plan])


def is_end(store, state):
    """Tells whether all wishes are done and nobody is in the aisle."""
    _, done, inside, _ = state
    return len(done) == len(store.wishes()) and len(inside) == 0


def behind(store, state, step):
    """Tells the state behind a step of the store that isn't barred in this state."""
    aisle, done, inside, kept = state
    kept = max(kept - 1, 0)
    word = step[0]
    if word == "shift":
        aisle = aisle + step[1]
    elif word == "in":
        inside = tuple(sorted([*inside, step[1]]))
    elif word == "out":
        inside = tuple([crew for crew in inside if crew != step[1]])
    elif word == "do":
        _, _, _, _, keep, _ = store.wishes()[step[1]]
        done = tuple(sorted([*done, step[1]]))
        kept = max(kept, keep)
    return (aisle, done, inside, kept)


def shifts_of(step):
    """Tells how many shifts a step of the store is: 1 or 0."""
    return 1 if step[0] == "shift" else 0


def refuse_no_steps(store, plan):
    """Refuses with BadStep the first thing in the plan that is no step."""
    known = _all_steps(store)
    for step in plan:
        if step not in known:
            raise BadStep(f"no step of this store: {step}")


def _all_steps(store):
    """Tells all steps of the store, barred or not."""
    return list(STEPS_OF_ANY_STORE) + [("do", number) for number in range(len(store.wishes()))]


def _bar(store, state, step):
    """Tells as barred does, of what is a step of the store."""
    word = step[0]
    if word == "shift":
        return _bar_of_shift(store, state, step[1])
    if word == "in":
        return _bar_of_going_in(state, step[1])
    if word == "out":
        return _bar_of_going_out(state, step[1])
    if word == "do":
        return _bar_of_wish(store, state, step[1])
    return None


def _bar_of_shift(store, state, by):
    """Tells what bars a shift by 1 or -1, or None."""
    aisle, _, inside, kept = state
    shelves = store.shelves()
    # The aisle's number is that of the shelf behind it.
    shelf = aisle if by == 1 else aisle - 1
    if not 0 <= shelf < len(shelves):
        return ("end", aisle)
    _, _, sticks = shelves[shelf]
    if sticks == 1:
        return ("sticks", shelf)
    if len(inside) > 0:
        return ("in", inside[0])
    if kept > 0:
        return ("kept", kept)
    return None


def _bar_of_going_in(state, crew):
    """Tells what bars a crew from going in, or None."""
    _, _, inside, _ = state
    if crew in inside:
        return ("is", crew)
    return None


def _bar_of_going_out(state, crew):
    """Tells what bars a crew from going out, or None."""
    _, _, inside, _ = state
    if crew not in inside:
        return ("isnt", crew)
    return None


def _bar_of_wish(store, state, wish):
    """Tells what bars the wish of this number, or None."""
    aisle, done, inside, _ = state
    kind, shelf, side, crew, _, after = store.wishes()[wish]
    if wish in done:
        return ("done", wish)
    for earlier in after:
        if earlier not in done:
            return ("after", earlier)
    if crew not in inside:
        return ("crew", crew)
    if not _is_beside(aisle, shelf, side):
        return ("aisle", aisle)
    return _bar_of_load(store, done, kind, shelf)


def _bar_of_load(store, done, kind, shelf):
    """Tells what bars a fetch or a bring by what the shelf has now, or None."""
    room, _, _ = store.shelves()[shelf]
    has = _has_now(store, done, shelf)
    if kind == "fetch" and has == 0:
        return ("empty", shelf)
    if kind == "bring" and has == room:
        return ("full", shelf)
    return None


def _is_beside(aisle, shelf, side):
    """Tells whether the aisle is at the shelf, on this side of it."""
    if side == "left":
        return aisle == shelf
    if side == "right":
        return aisle == shelf + 1
    return aisle in (shelf, shelf + 1)


def _has_now(store, done, shelf):
    """Tells how many the shelf has when these wishes are done."""
    _, has, _ = store.shelves()[shelf]
    for number, (kind, place, _, _, _, _) in enumerate(store.wishes()):
        if number in done and place == shelf:
            has = has - 1 if kind == "fetch" else has + 1
    return has
