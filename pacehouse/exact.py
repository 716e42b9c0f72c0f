"""Which sizes of windows tell rules: inner states, alike ones, papers for a size, papers for any size."""

from pacehouse.inner import in_order, inner_pairs, least_telling, unlike_layers, unlike_pairs
from pacehouse.pairs import first_apart, met_pairs
from pacehouse.tables import moves_from, shared_signs
from pacehouse.values import is_ascending, is_from_one, is_index, is_text, is_tuple_of
from pacehouse.windows import is_let_by
from pacehouse.wrongpairs import first_let_by


def inner_states(rules):
    """The ascending tuple of the inner states."""
    return tuple(sorted(list(inner_pairs(rules))))


def are_alike(rules, state, other):
    """Whether the same pairs lead on from two states."""
    return parting_from(rules, (state, other)) is None


def parting_from(rules, pair):
    """The first pair that leads on from just one of two states, or None."""
    return first_apart(rules, rules, met_pairs(rules, rules, pair), True)


def can_tell(rules, size):
    """Whether a size tells rules."""
    least = least_size(rules)
    return least is not None and least <= size


def least_size(rules):
    """The least size that tells rules, or None."""
    return least_telling(unlike_layers(unlike_pairs(rules)))


def first_wrong(rules, size):
    """The first pair that is let by by a size and is not right, or None."""
    return first_let_by(rules, size)


def judge_size(rules, size):
    """A paper for a size: ranks, or the first wrong pair."""
    wrong = first_let_by(rules, size)
    if wrong is not None:
        return ("wrong", wrong[0], wrong[1])
    return ("tells", ranks_of(unlike_layers(unlike_pairs(rules))))


def ranks_of(layers):
    """For each pair of unlike inner states, with it, the number of the last layer that has it."""
    numbers = {}
    for number, layer in enumerate(layers):
        for pair in layer:
            numbers[pair] = number
    return tuple(sorted([(*pair, number) for pair, number in numbers.items()]))


def judge_any_size(rules):
    """A paper for any size: the least one that tells rules, with ranks, or what keeps all from telling them."""
    layers = unlike_layers(unlike_pairs(rules))
    least = least_telling(layers)
    if least is not None:
        return ("tells", least, ranks_of(layers))
    (state, other), loop = endless_loop(rules, layers[-1])
    tail = parting_from(rules, (state, other))
    ahead = inner_pairs(rules)
    if rules.led(state, tail[0], tail[1]) is None:
        return ("never", ahead[other], ahead[state], loop, tail)
    return ("never", ahead[state], ahead[other], loop, tail)


def endless_loop(rules, endless):
    """A pair of two states, and a pair of one sign or more that leads both back to themselves.

    From each of the endless pairs of states some sign leads to one of them.
    """
    pair = min(list(endless))
    places = {}
    signs = []
    while pair not in places:
        places[pair] = len(signs)
        sign, pair = endless_step(rules, endless, pair)
        signs.append(sign)
    loop = signs[places[pair]:]
    return pair, ("".join([h for h, _ in loop]), "".join([c for _, c in loop]))


def endless_step(rules, endless, pair):
    """The first sign that leads a pair of states to an endless one, and that pair, its states not put in order."""
    here = moves_from(rules.rows, pair[0])
    there = moves_from(rules.rows, pair[1])
    for sign in shared_signs(here, there):
        after = (here[sign], there[sign])
        if in_order(after) in endless:
            return sign, after
    return None, pair


def size_holds(rules, size, thing):
    """Whether any value is a paper for a size."""
    if is_tuple_of(thing, 2) and thing[0] == "tells":
        return are_ranks(rules, size, thing[1])
    if is_tuple_of(thing, 3) and thing[0] == "wrong":
        return is_pair(rules, thing[1:]) and is_wrong(rules, size, thing[1], thing[2])
    return False


def is_wrong(rules, size, speech, caption):
    """Whether a pair is let by by a size, and is not right."""
    return is_let_by(rules, size, speech, caption) and not rules.is_right(speech, caption)


def are_ranks(rules, size, thing):
    """Whether any value is ranks that show that a size tells rules."""
    onward = unlike_pairs(rules)
    if not is_tuple_of(thing, len(onward)):
        return False
    numbers = {}
    for row in thing:
        if not is_rank(rules, size, row) or row[:2] not in onward:
            return False
        numbers[row[:2]] = row[2]
    if not is_ascending(thing) or len(numbers) < len(onward):
        return False
    return all([numbers[after] < numbers[pair] for pair in onward for after in onward[pair]])


def is_rank(rules, size, thing):
    """Whether any value is two states with a number that a size allows."""
    if not is_tuple_of(thing, 3) or not is_index(thing[0], len(rules)) or not is_index(thing[1], len(rules)):
        return False
    return is_index(thing[2], size - 1)


def is_pair(rules, thing):
    """Whether any value is a tuple of a speech and a caption of one length."""
    if not is_tuple_of(thing, 2) or not is_text(thing[0], rules.heard) or not is_text(thing[1], rules.written):
        return False
    return len(thing[0]) == len(thing[1])


def any_size_holds(rules, thing):
    """Whether any value is a paper for any size."""
    if is_tuple_of(thing, 3) and thing[0] == "tells":
        return is_from_one(thing[1]) and are_ranks(rules, thing[1], thing[2])
    if is_tuple_of(thing, 5) and thing[0] == "never":
        for pair in thing[1:]:
            if not is_pair(rules, pair) or pair[0] == "":
                return False
        return keeps_any(rules, thing[1], thing[2], thing[3], thing[4])
    return False


def keeps_any(rules, one, other, loop, tail):
    """Whether four pairs keep a watcher of any size from telling the rules."""
    state = rules.led(0, one[0], one[1])
    rival = rules.led(0, other[0], other[1])
    if state is None or rival is None:
        return False
    if rules.led(state, loop[0], loop[1]) != state or rules.led(rival, loop[0], loop[1]) != rival:
        return False
    return rules.led(state, tail[0], tail[1]) is not None and rules.led(rival, tail[0], tail[1]) is None
