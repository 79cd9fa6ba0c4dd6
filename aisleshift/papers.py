"""Plans with the least shifts, and papers that show that fewer don't do."""

from aisleshift.steps import begin, behind, is_end, shifts, shifts_of, steps_at
from aisleshift.ways import least_from


def least(store):
    """Tells a plan to an end with the least shifts, or that there is none, with a paper."""
    plan, paper = least_from(store, begin(store))
    if plan is None:
        return ("none", paper)
    return ("plan", plan, shifts(store, plan), paper)


def shows(store, paper, many):
    """Tells whether the paper is kept and shows that no plan to an end has fewer shifts than many.

    With many None: whether it shows that there is no such plan.
    """
    numbers = _numbers(paper)
    first = begin(store)
    # Fewer states than pairs: one of them stands twice.
    if len(numbers) < len(paper) or first not in numbers:
        return False
    for state in numbers:
        if not _is_kept_at(store, numbers, state):
            return False
    number = numbers[first]
    if number is None:
        return True
    return many is not None and number >= many


def _numbers(paper):
    """Tells the number of each state that stands."""
    numbers = {}
    for state, number in paper:
        numbers[state] = number
    return numbers


def _is_kept_at(store, numbers, state):
    """Tells whether a paper of these numbers is kept at this one of its states."""
    number = numbers[state]
    if is_end(store, state) and (number is None or number > 0):
        return False
    for step in steps_at(store, state):
        later = behind(store, state, step)
        if later not in numbers or not _is_at_most(number, numbers[later], shifts_of(step)):
            return False
    return True


def _is_at_most(number, later, more):
    """Tells whether the number is no more than a later one and the step's shifts together.

    None stands for more than any number.
    """
    if later is None:
        return True
    return number is not None and number <= later + more
