"""Slow looks at pieces and recordings, straight from the document's words."""

from pacehouse.rules import Rules
from tests import oracle, oracle_mending, oracle_windows

SHAPES = (("ab", "ab"), ("ab", "abc"), ("a", "xy"), ("ab", "x"), ("ab", "xyz"))
ALPHABET = "abcdefghijklmnopqrstuvwxyz"
# A pair that is not right is not right ever after; nothing leads to state 3; state 1 has no moves by b.
FIXED = Rules("ab", "xy", ((("a", "x", 0), ("a", "y", 1), ("b", "y", 2)), (("a", "x", 1),), (("a", "y", 2), ("b", "x", 0)), (("b", "x", 3),)))


def samples(seed, count):
    """Rules of all kinds, full and others, that part 8 allows."""
    named = [rules for rules in oracle.NAMED if len(rules) <= 4 and len(rules.heard) < 3] + [FIXED]
    return named + oracle.many_rules(seed, count, SHAPES, most=4)


def lead(rules, state, speech, caption):
    """The state to which signs lead from a state, None if they do not."""
    return oracle.led(rules, state, speech, caption)


def told_of(rules, speech, caption):
    """The map, the costs and the class of a pair, from all captions of its speech."""
    states = range(len(rules))
    leads = tuple(lead(rules, state, speech, caption) for state in states)
    costs, led = [], []
    for state in states:
        every = oracle.ways(rules, state, speech)
        row = []
        for end in states:
            row.append(min([oracle_mending.exchanges(text, caption) for text, after in every if after == end], default=None))
        costs.append(tuple(row))
        led.append(tuple(sorted({after for _, after in every})))
    return leads, tuple(costs), tuple(led)


def told(piece):
    return piece.leads_to, piece.costs, piece.led_class


def states_at(rules, speech, caption):
    """The state at each place of a pair."""
    return [oracle.led(rules, 0, speech[:place], caption[:place]) for place in range(len(speech) + 1)]


def stops(rules, speech, caption, k):
    """The places of the windows of k signs that are not let by."""
    found = []
    for place in range(len(speech) - k + 1):
        states = {0} if place == 0 else oracle_windows.inner(rules)
        window = speech[place:place + k], caption[place:place + k]
        if all(oracle.led(rules, state, *window) is None for state in states):
            found.append(place)
    return tuple(found)


def need(rules, speech, caption):
    best = oracle_mending.best_mended(rules, speech, caption)
    return None if best is None else best[0]


def alike_behind(rules, before, after, behind):
    """The greatest number of signs, at most so many, such that the states so many ahead of both ends are equal."""
    old, new = states_at(rules, *before), states_at(rules, *after)
    alike = [many for many in range(behind + 1) if old[len(old) - 1 - many] == new[len(new) - 1 - many]]
    return max(alike, default=0)
