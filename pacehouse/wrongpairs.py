"""The first wrong pair that windows of a size let by.

Such a pair has a right pair ahead, a window's other signs, and one sign more. The signs ahead lead to an inner state;
from another inner state, too, the window's other signs lead on, but the last sign leads on from there alone.
"""

from pacehouse.inner import inner_pairs, pairs_behind
from pacehouse.tables import moves_from


def first_let_by(rules, size):
    """The first pair that is let by by windows of a size and is not right, or None."""
    ahead = inner_pairs(rules)
    levels = deceived_levels(rules, list(ahead), size)
    deceived = {state: True for state, _ in levels[-1]}
    for state in ahead:
        if state in deceived:
            speech, caption = ahead[state]
            signs = deceiving_signs(rules, list(ahead), levels, state)
            return speech + "".join([h for h, _ in signs]), caption + "".join([c for _, c in signs])
    return None


def deceived_levels(rules, inner, size):
    """For each number of signs, below the size, the pairs of inner states that are deceived behind so many signs.

    A pair (state, other) is deceived behind none if some sign leads on from other, and not from the state.
    """
    table = [(state, other) for state in inner for other in inner if state != other]
    behind = {pair: pairs_behind(rules, pair) for pair in table}
    levels = [{pair: True for pair in table if len(deceits(rules, pair[0], [pair[1]])) > 0}]
    while len(levels) < size:
        levels.append({pair: True for pair in table if any([after in levels[-1] for after in behind[pair]])})
    return levels


def deceits(rules, state, others):
    """The signs that lead on from one of some other states, and not from the state."""
    here = moves_from(rules.rows, state)
    return [sign for other in others for sign in moves_from(rules.rows, other) if sign not in here]


def deceiving_signs(rules, others, levels, start):
    """The first signs, as many as there are levels, by which a state is deceived by one of some other states."""
    state = start
    left = others
    signs = []
    for level in reversed(levels[:-1]):
        sign = deceiving_sign(rules, state, left, level)
        signs.append(sign)
        state = moves_from(rules.rows, state)[sign]
        left = led_others(rules, left, sign)
    return [*signs, min(deceits(rules, state, left))]


def deceiving_sign(rules, state, others, level):
    """The first sign that leads a state and one of some other states to a pair of a level."""
    for sign, after in moves_from(rules.rows, state).items():
        if any([(after, other) in level for other in led_others(rules, others, sign)]):
            return sign
    return None


def led_others(rules, states, sign):
    """The states to which a sign leads from some states."""
    moves = [moves_from(rules.rows, state) for state in states]
    return [told[sign] for told in moves if sign in told]
