"""The states that steps come to, and the ways from there to an end with the least shifts."""

from heapq import heappop, heappush

from aisleshift.steps import behind, is_end, shifts_of, steps_at


def least_from(store, first):
    """Tells a plan from the first state to an end, or None, and a paper of all states from there.

    The plan has the least shifts, and of all such plans the least steps.
    """
    ways = _ways_from(store, first)
    costs = _costs(store, ways)
    plan = _plan(ways, costs, first) if first in costs else None
    return (plan, _paper(ways, costs))


def _ways_from(store, first):
    """Tells the states that steps come to from the first one, and this one.

    Each has the steps that aren't barred there, and the state behind each of them.
    """
    ways = {}
    waiting = [first]
    while len(waiting) > 0:
        state = waiting.pop()
        if state not in ways:
            ways[state] = [(step, behind(store, state, step)) for step in steps_at(store, state)]
            waiting.extend([later for _, later in ways[state]])
    return ways


def _costs(store, ways):
    """Tells the least shifts to an end, and of such the least steps, where an end is come to."""
    earlier = _earlier(ways)
    costs = {}
    queue = []
    for state in ways:
        if is_end(store, state):
            heappush(queue, (0, 0, state))
    while len(queue) > 0:
        moved, many, state = heappop(queue)
        # Whatever comes out of the queue first is the least: each step costs something.
        if state not in costs:
            costs[state] = (moved, many)
            for more, ahead in earlier[state]:
                heappush(queue, (moved + more, many + 1, ahead))
    return costs


def _earlier(ways):
    """Tells of each state those ahead of it, each with the shifts of the step between."""
    earlier = {state: [] for state in ways}
    for state, steps in ways.items():
        for step, later in steps:
            earlier[later].append((shifts_of(step), state))
    return earlier


def _plan(ways, costs, first):
    """Tells the steps of a way to an end that costs no more than told."""
    plan = []
    state = first
    # Only an end costs nothing.
    while costs[state] != (0, 0):
        step, state = _best_step(ways[state], costs)
        plan.append(step)
    return plan


def _best_step(steps, costs):
    """Tells the step behind which the way costs least, and the state behind it."""
    choices = []
    for step, later in steps:
        if later in costs:
            moved, many = costs[later]
            choices.append((moved + shifts_of(step), many, step, later))
    _, _, step, later = min(choices)
    return (step, later)


def _paper(ways, costs):
    """Tells all states, rising, each with its least shifts, or None."""
    paper = []
    for state in sorted(ways):
        number = None
        if state in costs:
            number, _ = costs[state]
        paper.append((state, number))
    return paper
