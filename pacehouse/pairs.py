"""Two rules beside each other: which pairs are right by just one of them."""

from pacehouse.rules import check_same_letters
from pacehouse.tables import all_signs, moves_from, shared_signs
from pacehouse.values import is_ascending, is_index, is_tuple_of

START = (0, 0)


def are_same(one, other):
    """Whether two rules have the same right pairs."""
    return parting(one, other) is None


def is_within(one, other):
    """Whether each right pair of one is a right pair of other."""
    check_same_letters(one, other)
    return first_apart(one, other, met_pairs(one, other, START), False) is None


def parting(one, other):
    """The first pair that is right by just one of two rules, or None."""
    check_same_letters(one, other)
    return first_apart(one, other, met_pairs(one, other, START), True)


def compared(one, other):
    """A paper that two rules are the same, or that they are apart."""
    check_same_letters(one, other)
    met = met_pairs(one, other, START)
    apart = first_apart(one, other, met, True)
    if apart is None:
        return ("same", tuple(sorted(list(met))))
    return ("apart", apart[0], apart[1])


def compared_holds(one, other, thing):
    """Whether any value is a paper that two rules are the same, or that they are apart."""
    check_same_letters(one, other)
    if is_tuple_of(thing, 2) and thing[0] == "same":
        return is_sameness(one, other, thing[1])
    if is_tuple_of(thing, 3) and thing[0] == "apart":
        return one.is_right(thing[1], thing[2]) != other.is_right(thing[1], thing[2])
    return False


def met_pairs(one, other, start):
    """The pairs of states to which pairs lead on from both of a first pair of states, in the order of these pairs.

    For each of them the pair of states ahead of it, and the sign that leads from there; None for the first one.
    """
    met = {start: None}
    order = [start]
    at = 0
    while at < len(order):
        pair = order[at]
        at += 1
        here = moves_from(one.rows, pair[0])
        there = moves_from(other.rows, pair[1])
        for sign in shared_signs(here, there):
            after = (here[sign], there[sign])
            if after not in met:
                met[after] = (pair, sign)
                order.append(after)
    return met


def first_apart(one, other, met, either):
    """The first pair that leads on by one and not by other, or if either, by just one of them; or None."""
    for pair in met:
        here = moves_from(one.rows, pair[0])
        there = moves_from(other.rows, pair[1])
        for sign in all_signs(here, there):
            if sign not in there or (either and sign not in here):
                return told_pair(met, pair, sign)
    return None


def told_pair(met, pair, sign):
    """The first pair that leads to a met pair of states, with one sign more."""
    signs = [sign]
    came = met[pair]
    while came is not None:
        signs.append(came[1])
        came = met[came[0]]
    signs.reverse()
    return "".join([h for h, _ in signs]), "".join([c for _, c in signs])


def is_sameness(one, other, thing):
    """Whether a value is the pairs of a paper that two rules are the same."""
    if not isinstance(thing, tuple):
        return False
    for pair in thing:
        if not is_tuple_of(pair, 2) or not is_index(pair[0], len(one)) or not is_index(pair[1], len(other)):
            return False
    if not is_ascending(thing):
        return False
    table = {pair: True for pair in thing}
    if START not in table:
        return False
    for pair in thing:
        if not is_led_on(one, other, pair, table):
            return False
    return True


def is_led_on(one, other, pair, table):
    """Whether a pair of states has the same signs on both sides, and each leads to a pair of the table."""
    here = moves_from(one.rows, pair[0])
    there = moves_from(other.rows, pair[1])
    for sign in all_signs(here, there):
        if sign not in here or sign not in there or (here[sign], there[sign]) not in table:
            return False
    return True
