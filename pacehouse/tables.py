"""Rows of moves as plain tuples: the rows of two rules joined, and the least rows.

All functions here leave what they are passed as it is: operators of rules rest on them.
"""

NOWHERE = -1


def moves_from(rows, state):
    """For each sign (h, c) of the moves from a state the state to which it leads; none from NOWHERE."""
    if state == NOWHERE:
        return {}
    return {(h, c): after for h, c, after in rows[state]}


def joined_rows(one, other, both):
    """Rows with a state for each pair of states that is met by the moves that both rows have.

    If not both, by the moves that one of them has: the other one is NOWHERE then.
    """
    numbers = {(0, 0): 0}
    order = [(0, 0)]
    rows = []
    while len(rows) < len(order):
        moves = joined_moves(one, other, order[len(rows)], both)
        for h, c, pair in moves:
            if pair not in numbers:
                numbers[pair] = len(order)
                order.append(pair)
        rows.append(tuple([(letter, sign, numbers[after]) for letter, sign, after in moves]))
    return tuple(rows)


def joined_moves(one, other, pair, both):
    """The moves (h, c, pair) from a pair of states, ascending."""
    here = moves_from(one, pair[0])
    there = moves_from(other, pair[1])
    signs = shared_signs(here, there) if both else all_signs(here, there)
    return [(h, c, (here.get((h, c), NOWHERE), there.get((h, c), NOWHERE))) for h, c in signs]


def shared_signs(here, there):
    """The signs of both moves, ascending."""
    return sorted([sign for sign in here if sign in there])


def all_signs(here, there):
    """The signs of one of both moves at least, ascending."""
    return sorted([*here, *[sign for sign in there if sign not in here]])


def met_states(rows):
    """The states to which some moves lead from 0, as they are met."""
    found = {0: True}
    order = [0]
    at = 0
    while at < len(order):
        state = order[at]
        at += 1
        for _, _, after in rows[state]:
            if after not in found:
                found[after] = True
                order.append(after)
    return order


def least_rows(rows):
    """The rows with as few states as any that have the same right pairs, numbered as they are met."""
    blocks = blocks_of(rows, met_states(rows))
    numbers = {blocks[0]: 0}
    order = [0]
    least = []
    while len(least) < len(order):
        moves = [(h, c, blocks[after], after) for h, c, after in rows[order[len(least)]]]
        for _, _, block, after in moves:
            if block not in numbers:
                numbers[block] = len(order)
                order.append(after)
        least.append(tuple([(letter, sign, numbers[met]) for letter, sign, met, _ in moves]))
    return tuple(least)


def blocks_of(rows, states):
    """For each of the states a number, the same one for two states exactly if the same pairs lead on from both."""
    blocks = {state: 0 for state in states}
    many = 1
    while True:
        finer = finer_blocks(rows, states, blocks)
        parts = len(set(list(finer.values())))
        if parts == many:
            return blocks
        blocks = finer
        many = parts


def finer_blocks(rows, states, blocks):
    """Blocks that tell states apart whose moves are unlike, or lead to unlike blocks."""
    numbers = {}
    finer = {}
    for state in states:
        told = (blocks[state], tuple([(h, c, blocks[after]) for h, c, after in rows[state]]))
        if told not in numbers:
            numbers[told] = len(numbers)
        finer[state] = numbers[told]
    return finer
