"""How many exchanges are enough for all pairs that are right by other rules."""

from pacehouse.captioning import check_full
from pacehouse.errors import OtherLetters
from pacehouse.needrows import first_need_row, least_worth, need_row_behind, need_rows
from pacehouse.pairs import told_pair
from pacehouse.values import is_index, is_tuple_of


def judge_enough(rules, other, number):
    """A paper: that a number of exchanges is enough, or a pair that needs more."""
    check_rules(rules, other)
    cells, needs = met_cells(rules, other, number)
    if needs is not None:
        return ("needs", needs[0], needs[1])
    return ("enough", sorted_cells(cells, number))


def is_enough(rules, other, number):
    """Whether a number of exchanges is enough for all pairs that are right by other rules."""
    return first_need(rules, other, number) is None


def first_need(rules, other, number):
    """The first pair that is right by other rules and needs more exchanges, or None."""
    check_rules(rules, other)
    _, needs = met_cells(rules, other, number)
    return needs


def least_enough(rules, other, most):
    """The least number of exchanges that is enough, or None if none up to most is."""
    check_rules(rules, other)
    for number in range(most + 1):
        _, needs = met_cells(rules, other, number)
        if needs is None:
            return number
    return None


def check_rules(rules, other):
    """Raises Mute for rules that are not full, then OtherLetters for two rules that do not hear the same letters."""
    check_full(rules)
    if rules.heard != other.heard:
        raise OtherLetters()


def met_cells(rules, other, number):
    """The cells that are met up to the first pair that needs more than a number, and this pair, or None.

    For each of them the cell ahead of it, and the sign that leads from there; None for the first one.
    """
    start = (0, first_need_row(rules))
    met = {start: None}
    order = [start]
    at = 0
    while at < len(order):
        state, row = order[at]
        for h, c, behind in other.rows[state]:
            after = (behind, capped(need_row_behind(rules, row, h, c), number))
            if least_worth(after[1]) is None:
                return met, told_pair(met, order[at], (h, c))
            if after not in met:
                met[after] = (order[at], (h, c))
                order.append(after)
        at += 1
    return met, None


def capped(row, number):
    """A need row with None in the place of all that is more than a number."""
    return tuple([None if worth is None or worth > number else worth for worth in row])


def sorted_cells(cells, number):
    """The tuple of some cells in their order: None counts as more than the number."""
    rows = {filled_cell(cell, number): cell for cell in cells}
    return tuple([rows[key] for key in sorted(list(rows))])


def filled_cell(cell, number):
    """A cell with number + 1 in the place of each None."""
    return (cell[0], tuple([number + 1 if worth is None else worth for worth in cell[1]]))


def enough_holds(rules, other, number, thing):
    """Whether any value is a paper: that a number is enough, or any pair that needs more."""
    check_rules(rules, other)
    if is_tuple_of(thing, 2) and thing[0] == "enough":
        return isinstance(thing[1], tuple) and are_cells(rules, other, number, thing[1])
    if is_tuple_of(thing, 3) and thing[0] == "needs":
        return other.is_right(thing[1], thing[2]) and needs_more(rules, number, thing[1], thing[2])
    return False


def needs_more(rules, number, speech, caption):
    """Whether a pair needs more than a number of exchanges."""
    return least_worth(need_rows(rules, speech, caption)[-1]) > number


def are_cells(rules, other, number, things):
    """Whether a tuple of any values is the cells of a paper that a number is enough."""
    table = {}
    last = ()
    for thing in things:
        if not is_cell(rules, other, number, thing) or not last < filled_cell(thing, number):
            return False
        last = filled_cell(thing, number)
        table[thing] = True
    if (0, first_need_row(rules)) not in table:
        return False
    for state, row in things:
        for h, c, after in other.rows[state]:
            if (after, capped(need_row_behind(rules, row, h, c), number)) not in table:
                return False
    return True


def is_cell(rules, other, number, thing):
    """Whether any value is a state of the other rules and a need row with one integer at least."""
    if not is_tuple_of(thing, 2) or not is_index(thing[0], len(other)) or not is_tuple_of(thing[1], len(rules)):
        return False
    for worth in thing[1]:
        if worth is not None and not is_index(worth, number + 1):
            return False
    return least_worth(thing[1]) is not None


def worst_needs(rules, other, length):
    """For each length up to this one the greatest need of all pairs of this length that are right by other rules."""
    check_rules(rules, other)
    layer = {(0, first_need_row(rules)): 0}
    worst = [0]
    for _ in range(length):
        layer = longer_layer(rules, other, layer)
        worst.append(max(list(layer.values()), default=None))
    return tuple(worst)


def longer_layer(rules, other, layer):
    """What is left open by pairs with one sign more, each time with the greatest need of those that leave it open.

    A need row is kept as what its numbers are above the need: of two pairs with one such row the greater need counts.
    """
    longer = {}
    for (state, row), least in layer.items():
        for h, c, behind in other.rows[state]:
            above = need_row_behind(rules, row, h, c)
            more = least_worth(above)
            after = (behind, tuple([None if worth is None else worth - more for worth in above]))
            longer[after] = max(longer.get(after, 0), least + more)
    return longer
