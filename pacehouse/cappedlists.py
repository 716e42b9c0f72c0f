"""Capped lists: number + 1 stands in the place of each greater fork."""

from pacehouse.lists import FIRST_LIST, back_by, list_behind


def capped_behind(rules, number, told, letter):
    """The list behind a letter, capped."""
    return tuple([(state, min(fork, number + 1)) for state, fork in list_behind(rules, told, letter)])


def met_lists(rules, number):
    """For each capped list that is met, for each heard letter, how many signs it takes back, and the list behind it."""
    steps = {}
    queue = [FIRST_LIST]
    while len(queue) > 0:
        told = queue.pop()
        if told not in steps:
            steps[told] = [(back_by(rules, told, letter), capped_behind(rules, number, told, letter))
                           for letter in rules.heard]
            queue.extend([after for _, after in steps[told]])
    return steps


def first_back(rules, number):
    """The first speech whose last letter takes back more than a number of signs, or None."""
    speeches = {FIRST_LIST: ""}
    queue = [FIRST_LIST]
    at = 0
    while at < len(queue):
        told = queue[at]
        at += 1
        for letter in rules.heard:
            if back_by(rules, told, letter) > number:
                return speeches[told] + letter
            after = capped_behind(rules, number, told, letter)
            if after not in speeches:
                speeches[after] = speeches[told] + letter
                queue.append(after)
    return None
