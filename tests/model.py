"""The document's rules and a search, written down apart from the program, to hold it against."""

WAIT = ("wait",)
LEFT = ("shift", -1)
RIGHT = ("shift", 1)


def parts(store):
    """A store's shelves, aisle and wishes."""
    return store.shelves(), store.aisle, store.wishes()


def has_now(shelves, wishes, done, shelf):
    """How many a shelf has behind these wishes."""
    there = [wishes[number][0] for number in done if wishes[number][1] == shelf]
    return shelves[shelf][1] + there.count("bring") - there.count("fetch")


def can_do(shelves, wishes, state, number):
    """Whether no rule bars a wish."""
    aisle, done, inside, _ = state
    kind, shelf, side, crew, _, after = wishes[number]
    beside = {"left": [shelf], "right": [shelf + 1], "any": [shelf, shelf + 1]}[side]
    limit = {"fetch": 0, "bring": shelves[shelf][0]}[kind]
    return (number not in done and set(after) <= set(done) and crew in inside
            and aisle in beside and has_now(shelves, wishes, done, shelf) != limit)


def moves(shelves, wishes, state):
    """All steps that aren't barred: the step, its shifts, the state behind it."""
    aisle, done, inside, kept = state
    left = kept - 1 if kept else 0
    found = [(WAIT, 0, (aisle, done, inside, left))]
    for by, shelf in ((-1, aisle - 1), (1, aisle)):
        if shelf in range(len(shelves)) and not (shelves[shelf][2] or inside or kept):
            found.append((("shift", by), 1, (aisle + by, done, inside, left)))
    for crew in (0, 1):
        word = "out" if crew in inside else "in"
        found.append(((word, crew), 0, (aisle, done, tuple(sorted(set(inside) ^ {crew})), left)))
    for number, wish in enumerate(wishes):
        if can_do(shelves, wishes, state, number):
            behind = (aisle, tuple(sorted(done + (number,))), inside, max(left, wish[4]))
            found.append((("do", number), 0, behind))
    return found


def ends(wishes, state):
    """Whether a state is an end."""
    return state[1:3] == (tuple(range(len(wishes))), ())


def play(shelves, wishes, state, plan):
    """The state behind a plan; an AssertionError where a step is barred."""
    for step in plan:
        behind = [later for told, _, later in moves(shelves, wishes, state) if told == step]
        assert len(behind) == 1, (state, step)
        state = behind[0]
    return state


def shifts_in(plan):
    """How many steps of a plan are shifts."""
    return sum(step in (LEFT, RIGHT) for step in plan)


def come_to(shelves, wishes, first):
    """All states from the first one on, each with its moves."""
    found, waiting = {}, [first]
    while waiting:
        state = waiting.pop()
        if state not in found:
            found[state] = moves(shelves, wishes, state)
            waiting += [later for _, _, later in found[state]]
    return found


def costs(shelves, wishes, first):
    """The least (shifts, steps) to an end from each state from the first one on, or None.

    All states are gone through again and again, until nothing becomes less.
    """
    found = come_to(shelves, wishes, first)
    told = {state: (0, 0) if ends(wishes, state) else None for state in found}
    less = True
    while less:
        less = False
        for state, ways in found.items():
            for _, more, later in ways:
                if told[later] is not None:
                    cost = (told[later][0] + more, told[later][1] + 1)
                    if told[state] is None or cost < told[state]:
                        told[state] = cost
                        less = True
    return told


def paper_of(told):
    """The paper that tells these costs' shifts."""
    return [(state, None if told[state] is None else told[state][0]) for state in sorted(told)]


def is_kept(shelves, aisle, wishes, paper):
    """Whether a paper is kept, word by word by point 8."""
    states = [state for state, _ in paper]
    numbers = dict(paper)
    if len(set(states)) != len(states) or (aisle, (), (), 0) not in states:
        return False
    for state, number in paper:
        if ends(wishes, state) and not (number is not None and number <= 0):
            return False
        for _, more, later in moves(shelves, wishes, state):
            if later not in numbers:
                return False
            behind = numbers[later]
            if number is None and behind is not None:
                return False
            if number is not None and behind is not None and number > behind + more:
                return False
    return True


def all_states(shelves, wishes):
    """All states of the form of point 4 in which each shelf has from none to its room."""
    many = len(wishes)
    for aisle in range(len(shelves) + 1):
        for bits in range(2 ** many):
            done = tuple(number for number in range(many) if bits >> number & 1)
            if all(0 <= has_now(shelves, wishes, done, at) <= shelves[at][0]
                   for at in range(len(shelves))):
                for inside in ((), (0,), (1,), (0, 1)):
                    for kept in range(4):
                        yield (aisle, done, inside, kept)


class Numbers:
    """Numbers that look like chance, the same in each run."""

    def __init__(self, seed):
        self.now = seed * 7919 + 17

    def below(self, many):
        self.now = (self.now * 1103515245 + 12345) % 2 ** 31
        return (self.now >> 12) % many

    def of(self, things):
        return things[self.below(len(things))]


def made_parts(seed, most_shelves=4, most_wishes=4):
    """Shelves, aisle and wishes of a store by a number, for many of different makes."""
    numbers = Numbers(seed)
    shelves = []
    for _ in range(1 + numbers.below(most_shelves)):
        room = numbers.of((0, 1, 2, 2, 3, 4, 9))
        shelves.append((room, numbers.below(room + 1), numbers.of((0,) * 11 + (1,))))
    many = numbers.below(most_wishes + 1)
    wishes = []
    for number in range(many):
        after = tuple(other for other in range(many)
                      if numbers.below(5) == 0 and (other < number or numbers.below(9) == 0))
        wishes.append((numbers.of(("fetch", "bring")), numbers.below(len(shelves)),
                       numbers.of(("left", "right", "any", "any")), numbers.below(2),
                       numbers.below(4), after))
    return shelves, numbers.below(len(shelves) + 1), wishes
