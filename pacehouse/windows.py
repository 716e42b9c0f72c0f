"""What a watcher lets by who sees only some neighbouring signs."""

from pacehouse.inner import inner_pairs
from pacehouse.rules import Rules, state_behind
from pacehouse.tables import NOWHERE, least_rows, moves_from


def is_let_by(rules, size, speech, caption):
    """Whether a pair is let by by windows of a size."""
    return stops_at(rules, size, speech, caption) is None


def stops_at(rules, size, speech, caption):
    """The number of the signs of the shortest beginning of a pair that is not let by, or None."""
    state = 0
    for place in range(min(size, len(speech))):
        state = state_behind(rules.rows[state], speech[place], caption[place])
        if state is None:
            return place + 1
    inner = list(inner_pairs(rules))
    for start in range(1, len(speech) - size + 1):
        end = start + size
        if not leads_from_any(rules, inner, speech[start:end], caption[start:end]):
            return end
    return None


def leads_from_any(rules, states, speech, caption):
    """Whether a pair leads on from one of some states."""
    return any([rules.led(state, speech, caption) is not None for state in states])


def let_by(rules, size):
    """Rules whose right pairs are those that are let by by windows of a size."""
    inner = tuple(sorted(list(inner_pairs(rules))))
    first = (0, ())
    numbers = {first: 0}
    order = [first]
    rows = []
    while len(rows) < len(order):
        moves = watched_moves(rules, size, inner, order[len(rows)])
        for _, after in moves:
            if after not in numbers:
                numbers[after] = len(order)
                order.append(after)
        rows.append(tuple([(*sign, numbers[met]) for sign, met in moves]))
    return Rules(rules.heard, rules.written, least_rows(tuple(rows)))


def watched_moves(rules, size, inner, seen):
    """The signs that are let by behind what was seen, ascending, each with what is seen then.

    Seen are the state, NOWHERE as soon as it does not count, and for each number of last signs that do not begin at
    place 0, below the size, the states to which they lead from inner ones.
    """
    state, sets = seen
    if len(sets) < size:
        signs = sorted(list(moves_from(rules.rows, state)))
    else:
        signs = led_signs(rules, sets[-1])
    moves = []
    for sign in signs:
        further = (inner, *[states_by(rules, states, sign) for states in sets])[:size]
        after = moves_from(rules.rows, state)[sign] if len(further) < size else NOWHERE
        moves.append((sign, (after, further)))
    return moves


def led_signs(rules, states):
    """The signs that lead on from one of some states at least, ascending."""
    return sorted({(h, c) for state in states for h, c, _ in rules.rows[state]})


def states_by(rules, states, sign):
    """The ascending tuple of the states to which a sign leads from some states."""
    return tuple(sorted({after for state in states for h, c, after in rules.rows[state] if (h, c) == sign}))
