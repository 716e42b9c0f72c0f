"""How many signs the plain captioner takes back at once: so many at most, or ever more by a ring."""

from pacehouse.cappedlists import capped_behind, met_lists
from pacehouse.captioning import check_full
from pacehouse.lists import FIRST_LIST, back_by, list_behind
from pacehouse.orders import FIRST_ORDER, most_taken, order_behind, order_through
from pacehouse.values import is_ascending, is_from_one, is_index, is_integer, is_number, is_text, is_tuple_of


def judge_plain(rules):
    """A paper: a ring, or the greatest number of signs that are ever taken back at once, with capped lists."""
    check_full(rules)
    ring, number = most_taken(rules)
    if ring is not None:
        return ("ring", *ring)
    return ("within", number, tuple(sorted(list(met_lists(rules, number)))))


def most_back(rules):
    """The greatest number of signs that are ever taken back at once, or None if there is a ring."""
    check_full(rules)
    _, number = most_taken(rules)
    return number


def plain_holds(rules, thing):
    """Whether any value is a paper: a ring, or a number with capped lists."""
    check_full(rules)
    if is_tuple_of(thing, 5) and thing[0] == "ring":
        return is_ring_shaped(rules, thing) and is_ring(rules, thing[1], thing[2], thing[3], thing[4])
    if is_tuple_of(thing, 3) and thing[0] == "within":
        return is_number(thing[1]) and isinstance(thing[2], tuple) and are_lists(rules, thing[1], thing[2])
    return False


def is_ring_shaped(rules, thing):
    """Whether a tuple of five values has the form of a paper with a ring."""
    for text in thing[1:4]:
        if not is_text(text, rules.heard):
            return False
    return thing[2] != "" and thing[3] != "" and is_from_one(thing[4])


def is_ring(rules, ahead, loop, behind, cut):
    """Whether texts and the place of a cut are a ring."""
    start, _ = order_through(rules, FIRST_ORDER, ahead)
    again, came = order_through(rules, start, loop)
    if again != start or len(start) <= cut or not came[cut - 1] < cut <= came[cut]:
        return False
    last, came = order_through(rules, start, behind[:-1])
    _, places = order_behind(rules, last, behind[-1])
    return came[0] < cut <= came[places[0]]


def are_lists(rules, number, things):
    """Whether a tuple of any values is the lists of a paper with a number."""
    for thing in things:
        if not is_capped_list(rules, number, thing):
            return False
    table = {thing: True for thing in things}
    if not is_ascending(things) or FIRST_LIST not in table:
        return False
    for told in things:
        for letter in rules.heard:
            if not is_led_on(rules, number, table, told, letter):
                return False
    return True


def is_capped_list(rules, number, thing):
    """Whether any value has the form of a capped list."""
    if not isinstance(thing, tuple) or len(thing) == 0:
        return False
    states = {}
    for pair in thing:
        if not is_tuple_of(pair, 2) or not is_index(pair[0], len(rules)) or pair[0] in states:
            return False
        least, most = (1, number + 1) if len(states) > 0 else (0, 0)
        if not is_integer(pair[1]) or not least <= pair[1] <= most:
            return False
        states[pair[0]] = True
    return True


def is_led_on(rules, number, table, told, letter):
    """Whether a letter leads on from a list, takes back at most so many signs, and leads to a list of a table."""
    if list_behind(rules, told, letter) == ():
        return False
    return back_by(rules, told, letter) <= number and capped_behind(rules, number, told, letter) in table
