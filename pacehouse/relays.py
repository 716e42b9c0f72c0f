"""Relays: one house writes below a speech, and another one below what the first one writes."""

from pacehouse.captioning import captions, check_full, first_caption, reached
from pacehouse.errors import Unjoined
from pacehouse.lateplans import signs_table, written_on
from pacehouse.relaygame import START, has_relay, is_open_stand, relay_paper, ways_behind
from pacehouse.rules import Rules
from pacehouse.tables import least_rows
from pacehouse.values import is_ascending, is_index, is_letter, is_number, is_text, is_tuple_of


def check_joined(one, other):
    """Raises Unjoined with the least letter that one writes and other does not hear."""
    for letter in one.written:
        if letter not in other.heard:
            raise Unjoined(letter)


def check_both(one, other):
    """Raises Unjoined for rules that cannot be joined, then Mute for one, or else for other, if it is not full."""
    check_joined(one, other)
    check_full(one)
    check_full(other)


def through(one, other):
    """The rules of the whole: below a speech is right what is right below some middle text."""
    check_joined(one, other)
    first = ((0, 0),)
    numbers = {first: 0}
    queue = [first]
    rows = []
    while len(rows) < len(queue):
        moves = whole_moves(one, other, queue[len(rows)])
        for _, _, places in moves:
            if places not in numbers:
                numbers[places] = len(queue)
                queue.append(places)
        rows.append(tuple([(h, c, numbers[met]) for h, c, met in moves]))
    return Rules(one.heard, other.written, least_rows(tuple(rows)))


def whole_moves(one, other, places):
    """The moves (h, c, pairs of states) from some pairs of states, ascending."""
    moves = [(h, c, (after, behind)) for state, other_state in places for h, m, after in one.rows[state]
             for g, c, behind in other.rows[other_state] if g == m]
    signs = sorted({(h, c) for h, c, _ in moves})
    return [(*sign, tuple(sorted({move[2] for move in moves if move[:2] == sign}))) for sign in signs]


def judge_relay(one, other, middle_lag, lag):
    """A paper for two lags: a plan of a relay, or a baffle."""
    check_both(one, other)
    return relay_paper(one, other, (middle_lag, lag))


def can_relay(one, other, middle_lag, lag):
    """Whether there is a plan of two lags."""
    check_both(one, other)
    return has_relay(one, other, (middle_lag, lag))


def least_relays(one, other, most):
    """The ascending tuple of the least pairs of lags of which neither is above most."""
    check_both(one, other)
    least = []
    for middle_lag in range(most + 1):
        for lag in range(middle_lag, most + 1):
            if not is_above_one(least, lag) and has_relay(one, other, (middle_lag, lag)):
                least.append((middle_lag, lag))
    return tuple(least)


def is_above_one(least, lag):
    """Whether a pair of this lag, with a middle lag that is not below those of least pairs, is one of them or above."""
    return any([lag >= known for _, known in least])


def relay_holds(one, other, middle_lag, lag, thing):
    """Whether any value is a plan of a relay of two lags, or a baffle."""
    check_both(one, other)
    if not is_tuple_of(thing, 2) or not isinstance(thing[1], tuple):
        return False
    if thing[0] == "plan":
        return is_plan(one, other, (middle_lag, lag), thing[1])
    if thing[0] == "baffle":
        return is_baffle(one, other, (middle_lag, lag), thing[1])
    return False


def is_stand(one, other, lags, thing):
    """Whether a tuple of four values or more begins with a relay stand of two lags."""
    if not is_index(thing[0], len(one)) or not is_text(thing[1], one.heard) or len(thing[1]) > lags[0]:
        return False
    if not is_index(thing[2], len(other)) or not is_text(thing[3], one.written):
        return False
    return len(thing[1]) + len(thing[3]) <= lags[1]


def is_plan(one, other, lags, things):
    """Whether a tuple of any values is the cells of a plan."""
    table = {}
    for thing in things:
        if not is_cell(one, other, lags, thing) or thing[:4] in table:
            return False
        table[thing[:4]] = True
    if not is_ascending(things) or START not in table:
        return False
    for thing in things:
        for letter, pair in zip(one.heard, thing[4]):
            behind = [after for fixed, after in ways_behind(one, other, lags, thing[:4], letter) if fixed == pair]
            if len(behind) == 0 or behind[0] not in table:
                return False
    return True


def is_cell(one, other, lags, thing):
    """Whether a value has the form of a cell, at an open stand, with something for each heard letter."""
    if not is_tuple_of(thing, 5) or not is_stand(one, other, lags, thing):
        return False
    return is_tuple_of(thing[4], len(one.heard)) and is_open_stand(one, other, thing[:4])


def is_baffle(one, other, lags, things):
    """Whether a tuple of any values is the rows of a baffle."""
    table = {}
    for thing in things:
        if not is_row(one, other, lags, thing) or thing[:4] in table:
            return False
        table[thing[:4]] = thing[5]
    if not is_ascending(things) or START not in table:
        return False
    for thing in things:
        for _, after in ways_behind(one, other, lags, thing[:4], thing[4]):
            if not (after in table and table[after] < thing[5]) and is_open_stand(one, other, after):
                return False
    return True


def is_row(one, other, lags, thing):
    """Whether a value has the form of a row of a baffle."""
    if not is_tuple_of(thing, 6) or not is_stand(one, other, lags, thing):
        return False
    return is_letter(thing[4], one.heard) and is_number(thing[5])


def put_together(one, other, cells, more):
    """The cells of a plan of a relay in which each house writes by the cells of a plan of its own."""
    check_both(one, other)
    table = signs_table(cells)
    other_table = signs_table(more)
    found = {}
    queue = [START]
    while len(queue) > 0:
        stand = queue.pop()
        if stand not in found:
            chosen = [both_on(one, other, table, other_table, stand, letter) for letter in one.heard]
            found[stand] = (*stand, tuple([pair for pair, _ in chosen]))
            queue.extend([after for _, after in chosen])
    return tuple(sorted(list(found.values())))


def both_on(one, other, table, other_table, stand, letter):
    """The pair that is fixed when a letter is heard if both houses write by their tables, and the stand behind it."""
    state, waiting, m = written_on(one, table, stand[:2], letter)
    other_state, middle, c = written_on(other, other_table, stand[2:], m)
    return (m, c), (state, waiting, other_state, middle)


def relayed(one, other, cells, speech):
    """The middle text and the caption that are written to a whole speech by the cells of a plan."""
    check_both(one, other)
    lags = (max([len(cell[1]) for cell in cells]), max([len(cell[1]) + len(cell[3]) for cell in cells]))
    table = {cell[:4]: cell[4] for cell in cells}
    stand = START
    text = ""
    caption = ""
    for letter in speech:
        pair = table[stand][one.heard.index(letter)]
        stand = [after for fixed, after in ways_behind(one, other, lags, stand, letter) if fixed == pair][0]
        text = text + pair[0]
        caption = caption + pair[1]
    last = first_middle(one, other, stand)
    return text + last, caption + first_caption(other, stand[2], stand[3] + last)


def first_middle(one, other, stand):
    """The first middle text that leads the waiting letters of an open stand on, and what is in the middle with it."""
    state, waiting, other_state, middle = stand
    return [text for text in captions(one, state, waiting) if reached(other, other_state, middle + text) != ()][0]
