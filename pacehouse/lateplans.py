"""Plans of late writers, and baffles of their speakers."""

from pacehouse.captioning import check_full, first_caption
from pacehouse.errors import TooSoon
from pacehouse.lategame import START, baffle_rows, lost_stands, met_options, plan_cells
from pacehouse.relations import letter_relations
from pacehouse.rules import state_behind
from pacehouse.stands import are_stand, goes_on, stands_behind
from pacehouse.values import is_ascending, is_letter, is_number, is_text, is_tuple_of


def judge_lag(rules, lag):
    """A paper for a lag: a plan of a writer, or a baffle."""
    check_full(rules)
    return paper_of(rules, lag)


def can_be_late(rules, lag):
    """Whether there is a plan of a lag."""
    check_full(rules)
    return has_plan(rules, lag)


def least_lag(rules, most):
    """The least lag, at most most, of which there is a plan, or None."""
    check_full(rules)
    for lag in range(most + 1):
        if has_plan(rules, lag):
            return lag
    return None


def written_by(rules, cells, speech):
    """The caption that is written to a whole speech by the cells of a plan."""
    check_full(rules)
    state, waiting, caption = written_on(rules, signs_table(cells), START, speech)
    return caption + first_caption(rules, state, waiting)


def signs_table(cells):
    """For each stand of the cells of a plan their signs."""
    return {cell[:2]: cell[2] for cell in cells}


def written_on(rules, table, stand, speech):
    """The state and the waiting letters to which a speech leads on from a stand, and what is written to it meanwhile.

    table has the signs of the stands of a plan.
    """
    state, waiting = stand
    caption = ""
    for letter in speech:
        signs = table[(state, waiting)]
        waiting = waiting + letter
        # A stand whose waiting letters are fewer than the lag has no signs.
        if signs != "":
            sign = signs[rules.heard.index(letter)]
            state = state_behind(rules.rows[state], waiting[0], sign)
            waiting = waiting[1:]
            caption = caption + sign
    return state, waiting, caption


def lag_holds(rules, lag, thing):
    """Whether any value is a plan of a lag, or a baffle."""
    check_full(rules)
    if not is_tuple_of(thing, 2) or not isinstance(thing[1], tuple):
        return False
    if thing[0] == "plan":
        return is_plan(rules, lag, thing[1])
    if thing[0] == "baffle":
        return is_baffle(rules, lag, thing[1])
    return False


def paper_of(rules, lag):
    """A paper for a lag of rules that are full."""
    options = met_options(rules, lag)
    lost = lost_stands(options)
    if START in lost:
        return ("baffle", baffle_rows(options, lost))
    return ("plan", plan_cells(rules, lag, lost))


def has_plan(rules, lag):
    """Whether there is a plan of a lag of rules that are full."""
    return START not in lost_stands(met_options(rules, lag))


def check_in_time(rules, lag):
    """Raises Mute for rules that are not full, then TooSoon with a baffle if there is no plan of a lag."""
    check_full(rules)
    paper = paper_of(rules, lag)
    if paper[0] == "baffle":
        raise TooSoon(paper)


def is_plan(rules, lag, things):
    """Whether a tuple of any values is the cells of a plan."""
    table = {}
    for thing in things:
        if not is_cell(rules, lag, thing) or (thing[0], thing[1]) in table:
            return False
        table[(thing[0], thing[1])] = thing[2]
    if not is_ascending(things) or START not in table:
        return False
    for state, waiting, signs in things:
        if not is_led_on(rules, lag, table, (state, waiting), signs):
            return False
    return True


def is_cell(rules, lag, thing):
    """Whether a value has the form of a cell, at an open stand."""
    if not is_tuple_of(thing, 3) or not are_stand(rules, lag, thing[0], thing[1]):
        return False
    if not is_text(thing[2], rules.written):
        return False
    many = len(rules.heard) if len(thing[1]) == lag else 0
    return len(thing[2]) == many and goes_on(rules, thing[0], thing[1])


def is_led_on(rules, lag, table, stand, signs):
    """Whether a cell leads on to a cell behind each heard letter."""
    state, waiting = stand
    for place, letter in enumerate(rules.heard):
        waits = waiting + letter
        behind = (state, waits)
        if len(waits) > lag:
            behind = (state_behind(rules.rows[state], waits[0], signs[place]), waits[1:])
        if behind not in table:
            return False
    return True


def is_baffle(rules, lag, things):
    """Whether a tuple of any values is the rows of a baffle."""
    table = {}
    for thing in things:
        if not is_baffle_row(rules, lag, thing) or (thing[0], thing[1]) in table:
            return False
        table[(thing[0], thing[1])] = thing[3]
    if not is_ascending(things) or START not in table:
        return False
    relations = letter_relations(rules)
    for state, waiting, letter, number in things:
        for stand in stands_behind(relations, lag, (state, waiting), letter):
            if not is_below(rules, table, stand, number):
                return False
    return True


def is_baffle_row(rules, lag, thing):
    """Whether a value has the form of a row of a baffle."""
    if not is_tuple_of(thing, 4) or not are_stand(rules, lag, thing[0], thing[1]):
        return False
    return is_letter(thing[2], rules.heard) and is_number(thing[3])


def is_below(rules, table, stand, number):
    """Whether a stand has a lesser number in a table, or is not open."""
    if stand in table and table[stand] < number:
        return True
    return not goes_on(rules, stand[0], stand[1])
