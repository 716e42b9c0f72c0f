"""The game of a writer who knows the next long piece and a speaker who names it.

A place is a pair of a state and the index of a class in the list of the long classes: the piece that is said next.
Sets of states are integers here, with a bit for each state.
"""


def lost_places(classes):
    """For each place from which the speaker wins a pair of a number and the index of the class to be named then.

    Each state to which the writer can come is led nowhere by that class, or makes a place with a lesser number.
    """
    masks = [[mask_of(states) for states in told] for told in classes]
    beaten = [mask_of([state for state, led in enumerate(told) if led == ()]) for told in classes]
    lost = {}
    number = 0
    fresh = fresh_places(masks, beaten)
    while len(fresh) > 0:
        for state, place, named in fresh:
            lost[(state, place)] = (number, named)
            beaten[place] = beaten[place] | (1 << state)
        number += 1
        fresh = fresh_places(masks, beaten)
    return lost


def mask_of(states):
    """The integer with the bits of some states."""
    return sum([1 << state for state in states])


def fresh_places(masks, beaten):
    """The places (state, index), with the index of a class to be named, that are lost by those that are beaten."""
    fresh = []
    for place, told in enumerate(masks):
        for state, led in enumerate(told):
            if (beaten[place] >> state) & 1 == 0:
                named = named_against(led, beaten)
                if named is not None:
                    fresh.append((state, place, named))
    return fresh


def named_against(led, beaten):
    """The index of the first class that beats all states of a set, or None."""
    for place, states in enumerate(beaten):
        if led & states == led:
            return place
    return None


def is_lost_somewhere(classes, lost):
    """Whether the speaker wins from the state 0 with some first piece."""
    return any([(0, place) in lost for place in range(len(classes))])


def chain_rows(classes, pumps, lost, start):
    """The rows of a chain: the lost places to which the named classes lead from a first one."""
    rows = {}
    order = [start]
    while len(order) > 0:
        place = order.pop()
        if place in lost and place not in rows:
            state, told = place
            number, named = lost[place]
            rows[place] = (state, classes[told], pumps[classes[named]], number)
            order.extend([(after, named) for after in classes[told][state]])
    return tuple(sorted(list(rows.values())))


def block_cells(classes, lost):
    """The cells of blocks: the places to which a writer comes from 0 who takes the first state that is not lost."""
    cells = {}
    order = [(0, place) for place in range(len(classes))]
    while len(order) > 0:
        place = order.pop()
        if place not in cells:
            state, told = place
            onward = [kept_state(classes, lost, classes[told][state], named) for named in range(len(classes))]
            cells[place] = (state, classes[told], tuple(onward))
            order.extend([(after, named) for named, after in enumerate(onward)])
    return tuple(sorted(list(cells.values())))


def kept_state(classes, lost, states, named):
    """The first of some states that a class leads on, and from which the speaker does not win then; or None."""
    for state in states:
        if classes[named][state] != () and (state, named) not in lost:
            return state
    return None
