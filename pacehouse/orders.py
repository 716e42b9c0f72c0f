"""Orders: the states of lists, in their order, and the cuts between neighbours.

A cut k of an order stands behind its first k states. Behind a letter it stands behind all states that come from these;
so each cut has its fork, which grows as long as there are states on both sides. When there are none ahead of it, all
its signs are taken back: it has ENDED then.
"""

from pacehouse.lategame import lost_stands
from pacehouse.lists import led_from

FIRST_ORDER = (0,)
ENDED = ((), 0)
FEW = 64


def order_behind(rules, order, letter):
    """The order behind a letter, and for each of its states the place in the order ahead that it comes from."""
    led = led_from(rules, order, letter)
    return tuple(list(led)), list(led.values())


def order_through(rules, order, text):
    """The order behind a text, and for each of its states the place in the order ahead that it comes from."""
    here = order
    places = list(range(len(order)))
    for letter in text:
        here, came = order_behind(rules, here, letter)
        places = [places[place] for place in came]
    return here, places


def most_taken(rules):
    """The ring of rules that are full, or None, and the most signs that are taken back at once if there is none."""
    most = FEW
    while True:
        # There may be very many orders, but a ring is often seen in the first ones.
        texts, steps = met_orders(rules, most)
        ways = cut_ways(steps)
        ends = ending_ways(ways)
        kept = {place: {"": [after for _, after in ways[place] if after in ends]} for place in ends}
        lost = lost_stands(kept)
        if len(lost) < len(ends):
            return found_ring(texts, ways, ends, lost), None
        if len(steps) == len(texts):
            return None, max([number + 1 for _, number in lost.values()], default=0)
        most = most * 4


def met_orders(rules, most):
    """For each order that is met its first text; and, for as many as are told at most, the steps by each letter.

    A step is a letter with the order behind it, and with the places from which its states come.
    """
    texts = {FIRST_ORDER: ""}
    queue = [FIRST_ORDER]
    steps = {}
    while len(steps) < len(queue) and len(steps) < most:
        order = queue[len(steps)]
        steps[order] = [(letter, *order_behind(rules, order, letter)) for letter in rules.heard]
        for letter, after, _ in steps[order]:
            if after not in texts:
                texts[after] = texts[order] + letter
                queue.append(after)
    return texts, steps


def cut_ways(steps):
    """For each place (order, cut) the ways on: letters with the places behind them, ENDED if all is taken back.

    Behind a cut there may be no states left: such a place has no ways on, and never comes to its end.
    """
    return {(order, cut): [(letter, place_behind(after, came, cut)) for letter, after, came in told]
            for order, told in steps.items() for cut in range(1, len(order))}


def place_behind(order, came, cut):
    """The place of a cut in the order behind a letter, whose states come from some places in the order ahead."""
    left = len([place for place in came if place < cut])
    return (order, left) if left > 0 else ENDED


def ending_ways(ways):
    """For each place from which a cut comes to its end the way on by which it does so soonest."""
    ahead = {}
    for place, told in ways.items():
        for letter, after in told:
            ahead.setdefault(after, []).append((place, letter))
    ends = {}
    queue = [ENDED]
    at = 0
    while at < len(queue):
        after = queue[at]
        at += 1
        for place, letter in ahead.get(after, ()):
            if place not in ends:
                ends[place] = (letter, after)
                queue.append(place)
    return ends


def found_ring(texts, ways, ends, lost):
    """The ring (ahead, loop, behind, k) of a place that comes round, and from which its cut comes to its end."""
    place = [kept for kept in ends if kept not in lost][0]
    met = {}
    loop = ""
    while place not in met:
        met[place] = len(loop)
        letter, place = [way for way in ways[place] if way[1] in ends and way[1] not in lost][0]
        loop = loop + letter
    behind = ""
    here = place
    while here != ENDED:
        letter, here = ends[here]
        behind = behind + letter
    return texts[place[0]], loop[met[place]:], behind, place[1]
