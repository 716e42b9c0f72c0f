"""Classes of texts, and pumps: texts of any length in one class."""

from pacehouse.captioning import check_full
from pacehouse.relations import composed, extended, letter_relations, still, text_relation
from pacehouse.values import is_indexes, is_text, is_tuple_of


def class_of(rules, text):
    """The class of a text of heard letters."""
    check_full(rules)
    return text_relation(rules, text)


def long_classes(rules):
    """The ascending tuple of the classes that are those of pumps."""
    check_full(rules)
    return tuple(sorted(list(first_pumps(rules))))


def pump_holds(rules, thing):
    """Whether any value is a pump."""
    check_full(rules)
    return is_pump(rules, thing)


def is_pump(rules, thing):
    """Whether any value is a pump of rules that are full."""
    if not is_tuple_of(thing, 3):
        return False
    for text in thing:
        if not is_text(text, rules.heard):
            return False
    told = text_relation(rules, thing[0])
    return thing[1] != "" and extended(rules, told, thing[1]) == told


def is_class_shaped(rules, thing):
    """Whether any value has the form of a class, be it that of a text or not."""
    if not is_tuple_of(thing, len(rules)):
        return False
    for states in thing:
        if not is_indexes(states, len(rules)):
            return False
    return True


def pump_class(rules, pump):
    """The class of a pump."""
    ahead, _, behind = pump
    return text_relation(rules, ahead + behind)


def first_pumps(rules):
    """For each long class a pump of it."""
    texts, onward = met_classes(rules)
    pumps = {}
    for start in texts:
        if start not in pumps:
            ways = ways_from(rules, onward, start)
            if start in ways:
                for after, behind in [(start, ""), *list(ways.items())]:
                    pumps.setdefault(after, (texts[start], ways[start], behind))
    return pumps


def met_classes(rules):
    """For each class that there is its first text, and the classes behind it, one for each heard letter."""
    relations = letter_relations(rules)
    first = still(rules)
    texts = {first: ""}
    onward = {}
    order = [first]
    while len(onward) < len(order):
        here = order[len(onward)]
        onward[here] = tuple([composed(here, relations[letter]) for letter in rules.heard])
        for letter, after in zip(rules.heard, onward[here]):
            if after not in texts:
                texts[after] = texts[here] + letter
                order.append(after)
    return texts, onward


def ways_from(rules, onward, start):
    """For each class to which some text, not the empty one, leads on from a class, the first such text."""
    ways = {}
    order = [(start, "")]
    at = 0
    while at < len(order):
        here, text = order[at]
        at += 1
        for letter, after in zip(rules.heard, onward[here]):
            if after not in ways:
                ways[after] = text + letter
                order.append((after, text + letter))
    return ways
