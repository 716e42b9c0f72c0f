"""Slow looks at rings, capped lists and plain means, straight from the document's words."""

import random
from fractions import Fraction

from pacehouse.rules import Rules
from tests import oracle, oracle_mending

# Behind each letter the sign ahead of it must be the other one of two as soon as a b is heard: b takes back one sign.
BACK = Rules("ab", "ab", (
    (("a", "a", 1), ("a", "b", 2), ("b", "a", 1), ("b", "b", 2)), (("a", "a", 1), ("a", "b", 2)), (("b", "a", 1), ("b", "b", 2))))
# A promise of two kinds: the sign below the first letter tells which of b and c comes, if one does, before the next d.
PROMISES = Rules("bcd", "xyz", (
    (("b", "x", 1), ("b", "y", 2), ("b", "z", 3), ("c", "x", 1), ("c", "y", 2), ("c", "z", 3), ("d", "x", 0)),
    (("d", "x", 1),),
    (("b", "x", 2), ("d", "y", 2)),
    (("b", "y", 3), ("c", "z", 3), ("d", "z", 0))))
FULL = [rules for rules in oracle.NAMED if oracle.first_mute(rules) is None and len(rules) < 6]
FULL += [rules for rules in (BACK, PROMISES) if oracle.first_mute(rules) is None]


def firsts_in_order(rules, speech):
    """The first captions of the states to which a speech leads, with these states, in the order of the captions."""
    return sorted((text, state) for state, text in oracle_mending.firsts(rules, speech).items())


def states_in_order(rules, speech):
    return [state for _, state in firsts_in_order(rules, speech)]


def places_through(rules, ahead, text):
    """For each pair of the list of ahead + text the place in the list of ahead whose caption its own begins with."""
    captions = [caption for caption, _ in firsts_in_order(rules, ahead)]
    return [captions.index(caption[:len(ahead)]) for caption, _ in firsts_in_order(rules, ahead + text)]


def ring_holds(rules, thing):
    """Whether five values are a paper with a ring: clause by clause, from the captions."""
    _, ahead, loop, behind, k = thing
    if not all(oracle.text_of(rules.heard, text) for text in (ahead, loop, behind)) or not oracle.integer(k):
        return False
    if loop == "" or behind == "" or k < 1:
        return False
    states = states_in_order(rules, ahead)
    if states_in_order(rules, ahead + loop) != states or len(states) <= k:
        return False
    came = places_through(rules, ahead, loop)
    if came[k - 1] >= k or came[k] < k:
        return False
    text = behind[:-1]
    came = places_through(rules, ahead, text)
    first = places_through(rules, ahead + text, behind[-1])[0]
    return came[0] < k and came[first] >= k


def letter_behind(rules, told, letter):
    """How many signs a letter takes back behind a list, and the list behind it; None if no state is led on."""
    states, came = [], []
    for place, (state, _) in enumerate(told):
        for _, after in sorted((c, after) for h, c, after in rules.rows[state] if h == letter):
            if after not in states:
                states.append(after)
                came.append(place)
    if not states:
        return None
    forks = [0] + [1 + max([told[at][1] for at in range(one + 1, two + 1)], default=0) for one, two in zip(came, came[1:])]
    return max(told[at][1] for at in range(came[0] + 1)), tuple(zip(states, forks))


def capped(told, number):
    return tuple((state, fork if fork <= number else number + 1) for state, fork in told)


def within_holds(rules, number, lists):
    """Whether a number and a value are a paper with lists."""
    if not oracle.integer(number) or number < 0 or type(lists) is not tuple:
        return False
    for told in lists:
        if type(told) is not tuple or not told or not all(type(pair) is tuple and len(pair) == 2 for pair in told):
            return False
        if not all(oracle.state_of(rules, state) and oracle.integer(fork) for state, fork in told):
            return False
        if len({state for state, _ in told}) < len(told) or told[0][1] != 0:
            return False
        if not all(1 <= fork <= number + 1 for _, fork in told[1:]):
            return False
    if list(lists) != sorted(set(lists)) or ((0, 0),) not in lists:
        return False
    return all(list_holds(rules, number, set(lists), told) for told in lists)


def list_holds(rules, number, table, told):
    for letter in rules.heard:
        after = letter_behind(rules, told, letter)
        if after is None or after[0] > number or capped(after[1], number) not in table:
            return False
    return True


def plain_holds(rules, thing):
    if type(thing) is not tuple or not thing or type(thing[0]) is not str:
        return False
    if thing[0] == "ring" and len(thing) == 5:
        return ring_holds(rules, thing)
    return thing[0] == "within" and len(thing) == 3 and within_holds(rules, thing[1], thing[2])


def closure(rules, number, starts):
    """All capped lists to which some lead; None if one leads nowhere, or takes back more than the number."""
    found = list(starts)
    seen = set(found)
    for told in found:
        for letter in rules.heard:
            after = letter_behind(rules, told, letter)
            if after is None or after[0] > number:
                return None
            told_behind = capped(after[1], number)
            if told_behind not in seen:
                seen.add(told_behind)
                found.append(told_behind)
    return found


def met_lists(rules, number):
    return closure(rules, number, [((0, 0),)])


def widest_lists(rules, number, seed, count=12):
    """Lists for a number with some that come of no speech; None if the number is not kept."""
    rng = random.Random(seed)
    starts = [((0, 0),)]
    if closure(rules, number, starts) is None:
        return None
    for _ in range(count):
        states = rng.sample(range(len(rules)), rng.randint(1, len(rules)))
        told = tuple((state, rng.randint(1, number + 1) if at else 0) for at, state in enumerate(states))
        if closure(rules, number, starts + [told]) is not None:
            starts.append(told)
    return tuple(sorted(set(closure(rules, number, starts))))


def greatest_mean(rules, number):
    """The greatest mean of a round of capped lists: of closed walks of each length from each of them."""
    lists = met_lists(rules, number)
    best = Fraction(0)
    for start in lists:
        layer = {start: 0}
        for steps in range(1, len(lists) + 1):
            longer = {}
            for told, back in layer.items():
                for letter in rules.heard:
                    more, after = letter_behind(rules, told, letter)
                    after = capped(after, number)
                    longer[after] = max(longer.get(after, 0), back + more)
            layer = longer
            best = max(best, Fraction(layer.get(start, 0), steps))
    return best


def many_plain(seed, count):
    """Full rules of all shapes that part 6 allows, with rings and without."""
    return oracle.many_full(seed, count, (("ab", "ab"), ("ab", "abc"), ("abc", "ab"), ("abc", "xyz"), ("a", "xy"), ("ab", "x")))
