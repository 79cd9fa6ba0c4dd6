"""Plans that are mended when a wish comes late, or a shelf sticks."""

from aisleshift.errors import BadStep, BadStore
from aisleshift.steps import played, refuse_no_steps, shifts
from aisleshift.stores import Store
from aisleshift.ways import least_from


def mended(store, plan, at, change):
    """Tells the plan, mended by a change ahead of step number at, or that there is none."""
    refuse_no_steps(store, plan)
    changed = _changed(store, change)
    if not 0 <= at <= len(plan):
        raise BadStep(f"no number of a step of this plan: {at}")
    ahead = plan[:at]
    states = played(store, ahead)
    rest, paper = least_from(changed, states[-1])
    if rest is None:
        return ("none", paper)
    whole = ahead + rest
    return ("plan", whole, shifts(changed, whole))


def _changed(store, change):
    """Tells the store by the change; refuses with BadStep what is none."""
    if len(change) == 2:
        word, told = change
        if word == "late":
            return _with_wish(store, told)
        if word == "sticks" and _is_shelf_number(store, told):
            return _with_stuck_shelf(store, told)
    raise BadStep("no change of this store")


def _is_shelf_number(store, told):
    """Tells whether a shelf of the store has this number."""
    # A wish may stand here, too, and is nothing to be compared with numbers.
    return isinstance(told, int) and 0 <= told < len(store.shelves())


def _with_wish(store, wish):
    """Tells the store with one wish more; refuses with BadStep what is none, or a sixth."""
    try:
        return Store(store.shelves(), store.aisle, store.wishes() + [wish])
    except BadStore:
        raise BadStep("no wish that may come to this store") from None


def _with_stuck_shelf(store, number):
    """Tells the store in which the shelf of this number sticks."""
    shelves = store.shelves()
    room, has, _ = shelves[number]
    shelves[number] = (room, has, 1)
    return Store(shelves, store.aisle, store.wishes())
