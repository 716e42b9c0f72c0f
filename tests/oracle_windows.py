"""Slow looks at windows, inner states and sizes, straight from the document's words."""

import itertools

from tests import oracle


def inner(rules):
    """The states to which right pairs of one sign or more lead: one sign first, then one sign more, round by round."""
    met = {after for _, _, after in rules.rows[0]}
    while True:
        more = met | {after for state in met for _, _, after in rules.rows[state]}
        if more == met:
            return sorted(met)
        met = more


def windows_of(pair, size):
    """The windows of a pair from places from 1 on."""
    return [(pair[0][at:at + size], pair[1][at:at + size]) for at in range(1, len(pair[0]) - size + 1)]


def seen_windows(rules, size, most):
    """All windows of the right pairs of at most so many signs."""
    return {window for pair in oracle.right_pairs(rules, most) for window in windows_of(pair, size)}


def is_let_by(rules, size, speech, caption):
    """Whether a pair is let by: its first signs, and then window by window."""
    if oracle.led(rules, 0, speech[:size], caption[:size]) is None:
        return False
    states = inner(rules)
    return all(any(oracle.led(rules, state, *window) is not None for state in states)
               for window in windows_of((speech, caption), size))


def stops_at(rules, size, speech, caption):
    for many in range(len(speech) + 1):
        if not is_let_by(rules, size, speech[:many], caption[:many]):
            return many
    return None


def first_wrong(rules, size, most):
    """The first pair of at most so many signs that is let by and not right."""
    for pair in oracle.pairs(rules.heard, rules.written, most):
        if is_let_by(rules, size, *pair) and oracle.led(rules, 0, *pair) is None:
            return pair
    return None


def unlike(rules):
    """The pairs of states, both ways round, from just one of which some pair leads on: marked round by round."""
    moves = [{(h, c): after for h, c, after in row} for row in rules.rows]
    marked = set()
    while True:
        more = {(s, t) for s, t in itertools.product(range(len(moves)), repeat=2) if moves[s].keys() != moves[t].keys()
                or any((moves[s][sign], moves[t][sign]) in marked for sign in moves[s])}
        if more == marked:
            return marked
        marked = more


def are_alike_up_to(rules, state, other, most):
    """Whether the same pairs of at most so many signs lead on from two states."""
    return all((oracle.led(rules, state, *pair) is None) == (oracle.led(rules, other, *pair) is None)
               for pair in oracle.pairs(rules.heard, rules.written, most))


def tells(rules, size):
    """Whether no pair with one sign less than the size leads from two inner states to unlike ones."""
    apart = unlike(rules)
    layer = set(itertools.product(inner(rules), repeat=2))
    for _ in range(size - 1):
        layer = {(x[2], y[2]) for s, t in layer for x in rules.rows[s] for y in rules.rows[t] if x[:2] == y[:2]}
    return not layer & apart


def least_size(rules, most=40):
    """The least size that tells, or None; there are so few pairs of states that most is beyond all of them."""
    return next((size for size in range(1, most) if tells(rules, size)), None)


def ranks_hold(rules, size, thing):
    if type(thing) is not tuple or not all(type(row) is tuple and len(row) == 3 for row in thing):
        return False
    if not all(oracle.integer(x) for row in thing for x in row) or not oracle.sorted_table(thing, 2):
        return False
    apart, states = unlike(rules), inner(rules)
    if {row[:2] for row in thing} != {(p, q) for p in states for q in states if p < q and (p, q) in apart}:
        return False
    numbers = {row[:2]: row[2] for row in thing}
    for p, q, number in thing:
        if not 0 <= number < size - 1:
            return False
        for x, y in itertools.product(rules.rows[p], rules.rows[q]):
            pair = tuple(sorted((x[2], y[2])))
            if x[:2] == y[:2] and pair in apart and not numbers[pair] < number:
                return False
    return True


def pair_of(rules, thing):
    return oracle.text_of(rules.heard, thing[0]) and oracle.text_of(rules.written, thing[1]) and len(thing[0]) == len(thing[1])


def size_holds(rules, size, thing):
    if type(thing) is not tuple or not thing or type(thing[0]) is not str:
        return False
    if thing[0] == "wrong" and len(thing) == 3 and pair_of(rules, thing[1:]):
        return is_let_by(rules, size, *thing[1:]) and oracle.led(rules, 0, *thing[1:]) is None
    return thing[0] == "tells" and len(thing) == 2 and ranks_hold(rules, size, thing[1])


def any_size_holds(rules, thing):
    if type(thing) is not tuple or not thing or type(thing[0]) is not str:
        return False
    if thing[0] == "tells" and len(thing) == 3:
        return oracle.integer(thing[1]) and thing[1] >= 1 and ranks_hold(rules, thing[1], thing[2])
    if thing[0] != "never" or len(thing) != 5 or not all(type(pair) is tuple and len(pair) == 2 for pair in thing[1:]):
        return False
    if not all(pair_of(rules, pair) and pair[0] for pair in thing[1:]):
        return False
    one, other, loop, tail = thing[1:]
    p, q = oracle.led(rules, 0, *one), oracle.led(rules, 0, *other)
    return (None not in (p, q) and oracle.led(rules, p, *loop) == p and oracle.led(rules, q, *loop) == q
            and oracle.led(rules, p, *tail) is not None and oracle.led(rules, q, *tail) is None)


def widest_ranks(rules, size):
    """Ranks with numbers that are as great as the size lets them be, or None if they do not hold."""
    apart, states = unlike(rules), inner(rules)
    numbers = {(p, q): size - 2 for p in states for q in states if p < q and (p, q) in apart}
    for _ in range(len(numbers) + 1):
        for p, q in numbers:
            for x, y in itertools.product(rules.rows[p], rules.rows[q]):
                pair = tuple(sorted((x[2], y[2])))
                if x[:2] == y[:2] and pair in numbers:
                    numbers[pair] = min(numbers[pair], numbers[(p, q)] - 1)
    thing = tuple(sorted((*pair, number) for pair, number in numbers.items()))
    return thing if ranks_hold(rules, size, thing) else None
