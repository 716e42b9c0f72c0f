"""How many signs of a caption must be exchanged so that it is right: needs, mended captions, worths."""

from pacehouse.captioning import check_full
from pacehouse.needrows import exchanges, least_worth, need_rows, needs_ahead
from pacehouse.values import is_integer, is_tuple_of


def need(rules, speech, caption):
    """The least number of signs of a caption to be exchanged so that it is right."""
    check_full(rules)
    return least_worth(need_rows(rules, speech, caption)[-1])


def mended(rules, speech, caption):
    """The first right caption with as few exchanges as any."""
    check_full(rules)
    return first_mended(rules, speech, caption)


def first_mended(rules, speech, caption):
    """The first right caption, by rules that are full, with as few exchanges as any."""
    ahead = needs_ahead(rules, speech, caption)
    state = 0
    text = ""
    for place, letter in enumerate(speech):
        sign, state = mending_step(rules.rows[state], letter, caption[place], ahead[place][state], ahead[place + 1])
        text = text + sign
    return text


def mending_step(moves, letter, shown, left, ahead):
    """The sign and the state of the first move by a letter behind which no more exchanges are needed than are left."""
    for h, c, after in moves:
        if h == letter and ahead[after] is not None and ahead[after] + exchanges(c, shown) == left:
            return c, after
    return "", None


def fewest_signs(rules, speech, caption, place):
    """The ascending string of the signs that stand at a place in mended captions with as few exchanges as any."""
    check_full(rules)
    worths = need_rows(rules, speech, caption)[place]
    ahead = needs_ahead(rules, speech, caption)
    signs = {}
    for state, worth in enumerate(worths):
        for h, c, after in rules.rows[state]:
            if h == speech[place] and worth is not None and ahead[place + 1][after] is not None:
                if worth + exchanges(c, caption[place]) + ahead[place + 1][after] == ahead[0][0]:
                    signs[c] = True
    return "".join(sorted(list(signs)))


def judge_need(rules, speech, caption):
    """A paper that tells the need of a pair."""
    check_full(rules)
    return ("need", first_mended(rules, speech, caption), tuple(need_rows(rules, speech, caption)))


def need_holds(rules, speech, caption, thing):
    """Whether any value is a paper that tells the need of a pair."""
    check_full(rules)
    if not is_tuple_of(thing, 3) or thing[0] != "need" or not rules.is_right(speech, thing[1]):
        return False
    if not are_worths(rules, speech, caption, thing[2]):
        return False
    return least_worth(thing[2][-1]) == sum([exchanges(c, sign) for c, sign in zip(thing[1], caption)])


def are_worths(rules, speech, caption, thing):
    """Whether any value is rows of worths of a pair."""
    if not is_tuple_of(thing, len(speech) + 1):
        return False
    for row in thing:
        if not is_worth_row(rules, row):
            return False
    if thing[0][0] is None or thing[0][0] > 0:
        return False
    for place, letter in enumerate(speech):
        if not rises_by_steps(rules, letter, caption[place], thing[place], thing[place + 1]):
            return False
    return True


def is_worth_row(rules, thing):
    """Whether any value is a tuple with an integer or None for each state."""
    if not is_tuple_of(thing, len(rules)):
        return False
    for worth in thing:
        if worth is not None and not is_integer(worth):
            return False
    return True


def rises_by_steps(rules, letter, shown, row, onward):
    """Whether no move by a letter leads to a worth that is higher by more than the exchange that it costs."""
    for state, worth in enumerate(row):
        if worth is not None:
            for h, c, after in rules.rows[state]:
                if h == letter and (onward[after] is None or onward[after] > worth + exchanges(c, shown)):
                    return False
    return True
