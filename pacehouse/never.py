"""Whether some lag has a plan: blocks of a writer, and chains of a speaker."""

from pacehouse.captioning import check_full
from pacehouse.classes import first_pumps, is_class_shaped, is_pump, long_classes, pump_class
from pacehouse.longgame import block_cells, chain_rows, is_lost_somewhere, lost_places
from pacehouse.values import is_ascending, is_index, is_number, is_tuple_of


def some_lag(rules):
    """Whether some lag has a plan."""
    check_full(rules)
    classes = list(first_pumps(rules))
    return not is_lost_somewhere(classes, lost_places(classes))


def judge_never(rules):
    """A paper for all lags: a chain, or blocks."""
    check_full(rules)
    pumps = first_pumps(rules)
    classes = sorted(list(pumps))
    lost = lost_places(classes)
    for number, told in enumerate(classes):
        if (0, number) in lost:
            return ("never", pumps[told], chain_rows(classes, pumps, lost, (0, number)))
    return ("ever", block_cells(classes, lost))


def never_holds(rules, thing):
    """Whether any value is a chain, or blocks, with the word that is told with it."""
    check_full(rules)
    if is_tuple_of(thing, 3) and thing[0] == "never":
        return is_pump(rules, thing[1]) and isinstance(thing[2], tuple) and is_chain(rules, thing[1], thing[2])
    if is_tuple_of(thing, 2) and thing[0] == "ever":
        return isinstance(thing[1], tuple) and are_blocks(rules, thing[1])
    return False


def is_chain(rules, pump, things):
    """Whether a tuple of any values is the rows of a chain with a pump."""
    table = {}
    for thing in things:
        if not is_chain_row(rules, thing) or (thing[0], thing[1]) in table:
            return False
        table[(thing[0], thing[1])] = thing[3]
    if not is_ascending(things) or (0, pump_class(rules, pump)) not in table:
        return False
    for state, told, onward, number in things:
        behind = pump_class(rules, onward)
        for after in told[state]:
            if behind[after] != () and not is_below(table, (after, behind), number):
                return False
    return True


def is_chain_row(rules, thing):
    """Whether a value has the form of a row of a chain."""
    if not is_tuple_of(thing, 4) or not is_index(thing[0], len(rules)) or not is_number(thing[3]):
        return False
    return is_class_shaped(rules, thing[1]) and is_pump(rules, thing[2])


def is_below(table, place, number):
    """Whether a place has a lesser number in a table."""
    return place in table and table[place] < number


def are_blocks(rules, things):
    """Whether a tuple of any values is blocks."""
    classes = long_classes(rules)
    known = {told: True for told in classes}
    table = {}
    for thing in things:
        if not is_block_cell(rules, known, thing) or (thing[0], thing[1]) in table:
            return False
        table[(thing[0], thing[1])] = True
    if not is_ascending(things):
        return False
    for told in classes:
        if (0, told) not in table:
            return False
    for state, told, onward in things:
        for after, behind in zip(onward, classes):
            if after not in told[state] or (after, behind) not in table:
                return False
    return True


def is_block_cell(rules, known, thing):
    """Whether a value has the form of a cell of blocks, its class being one of the known ones."""
    if not is_tuple_of(thing, 3) or not is_index(thing[0], len(rules)):
        return False
    if not is_class_shaped(rules, thing[1]) or thing[1] not in known or not is_tuple_of(thing[2], len(known)):
        return False
    for state in thing[2]:
        if not is_index(state, len(rules)):
            return False
    return True
