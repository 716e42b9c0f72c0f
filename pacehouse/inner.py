"""Inner states: those to which some right pair of one sign or more leads; and which of them are unlike."""

from pacehouse.tables import blocks_of, moves_from, shared_signs


def inner_pairs(rules):
    """For each inner state the first right pair of one sign or more that leads to it, in the order of these pairs."""
    pairs = {}
    order = [(0, "", "")]
    at = 0
    while at < len(order):
        state, speech, caption = order[at]
        at += 1
        for h, c, after in rules.rows[state]:
            if after not in pairs:
                pairs[after] = (speech + h, caption + c)
                order.append((after, speech + h, caption + c))
    return pairs


def unlike_pairs(rules):
    """For any two inner states that are not alike, the lesser one first, the pairs of such ones behind shared signs."""
    blocks = blocks_of(rules.rows, list(range(len(rules))))
    inner = sorted(list(inner_pairs(rules)))
    unlike = [(p, q) for p in inner for q in inner if p < q and blocks[p] != blocks[q]]
    return {pair: [in_order(after) for after in pairs_behind(rules, pair) if blocks[after[0]] != blocks[after[1]]]
            for pair in unlike}


def pairs_behind(rules, pair):
    """The pairs of states to which the signs lead by which there is a move from both states of a pair."""
    here = moves_from(rules.rows, pair[0])
    there = moves_from(rules.rows, pair[1])
    return [(here[sign], there[sign]) for sign in shared_signs(here, there)]


def in_order(pair):
    """A pair of states, the lesser one first."""
    return (min(pair), max(pair))


def unlike_layers(onward):
    """For each number of signs, from 0 on, the pairs of states from which so many signs lead on through unlike ones.

    The last layer is empty, or all of its pairs can be led on without end.
    """
    layers = [{pair: True for pair in onward}]
    while len(layers[-1]) > 0:
        further = {pair: True for pair in layers[-1] if any([after in layers[-1] for after in onward[pair]])}
        if len(further) == len(layers[-1]):
            return layers
        layers.append(further)
    return layers


def least_telling(layers):
    """The least size that tells the rules with these layers, or None."""
    if len(layers[-1]) > 0:
        return None
    return len(layers)
