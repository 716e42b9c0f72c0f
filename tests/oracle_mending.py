"""Slow looks at needs, worths, need rows and first captions, straight from the document's words."""

import itertools
import os.path
import random

from pacehouse.rules import Rules
from tests import oracle

# Whatever is heard, the signs are x, y, x, y and so on from where one likes: to go over costs a sign each time.
SWING = Rules("ab", "xy", (
    (("a", "x", 1), ("a", "y", 0), ("b", "x", 1)), (("a", "y", 0), ("b", "x", 1), ("b", "y", 0))))
# No two signs that are alike may stand side by side.
UNLIKE = Rules("ab", "abc", (
    (("a", "a", 1), ("a", "b", 2), ("a", "c", 3), ("b", "a", 1), ("b", "b", 2), ("b", "c", 3)),
    (("a", "b", 2), ("a", "c", 3), ("b", "b", 2), ("b", "c", 3)),
    (("a", "a", 1), ("a", "c", 3), ("b", "a", 1), ("b", "c", 3)),
    (("a", "a", 1), ("a", "b", 2), ("b", "a", 1), ("b", "b", 2))))
FULL = [rules for rules in oracle.NAMED if oracle.first_mute(rules) is None and len(rules) < 5 and rules.heard == "ab"]
FULL += [SWING, UNLIKE]


def many_full(seed, count):
    """Full rules of up to 4 states, most of them over a and b."""
    return oracle.many_full(seed, count, (("ab", "ab"), ("ab", "abc"), ("ab", "ab"), ("a", "xy"), ("ab", "xy")))


def many_other(seed, count, heard="ab"):
    """Other rules, full or not, with written letters of their own."""
    shapes = ((heard, "ab"), (heard, "bc"), (heard, "xyz"), (heard, "b"))
    return oracle.many_rules(seed, count, shapes, most=4)


def exchanges(one, other):
    return sum(c != sign for c, sign in zip(one, other))


def right_captions(rules, speech):
    return sorted(caption for caption, _ in oracle.ways(rules, 0, speech))


def mended_captions(rules, speech, caption):
    """All mended captions with as few exchanges as any, ascending."""
    every = right_captions(rules, speech)
    least = min(exchanges(told, caption) for told in every)
    return [told for told in every if exchanges(told, caption) == least]


def best_mended(rules, speech, caption, barred=lambda place, c: False):
    """The least (exchanges, mended caption) of captions without barred signs: place by place, for each state the least."""
    best = {0: (0, "")}
    for place, letter in enumerate(speech):
        after = {}
        for state, (cost, text) in best.items():
            for h, c, end in rules.rows[state]:
                if h == letter and not barred(place, c):
                    told = (cost + (c != caption[place]), text + c)
                    after[end] = min(after.get(end, told), told)
        best = after
    return min(best.values(), default=None)


def fewest_signs(rules, speech, caption, place):
    """The signs at a place with which no more exchanges are asked than without."""
    least = best_mended(rules, speech, caption)[0]
    found = ""
    for sign in rules.written:
        told = best_mended(rules, speech, caption, lambda at, c: at == place and c != sign)
        found += sign if told and told[0] == least else ""
    return found


def row_of(rules, speech, caption, most=None):
    """The need row of a pair from all ways to lead its speech on."""
    row = []
    for state in range(len(rules)):
        told = [exchanges(text, caption) for text, end in oracle.ways(rules, 0, speech) if end == state]
        row.append(min(told) if told and (most is None or min(told) <= most) else None)
    return tuple(row)


def worth(thing):
    return thing is None or oracle.integer(thing)


def need_holds(rules, speech, caption, thing):
    if type(thing) is not tuple or len(thing) != 3 or type(thing[0]) is not str or thing[0] != "need":
        return False
    _, mended, worths = thing
    if not oracle.text_of(rules.written, mended) or oracle.led(rules, 0, speech, mended) is None:
        return False
    if type(worths) is not tuple or len(worths) != len(speech) + 1:
        return False
    if not all(type(row) is tuple and len(row) == len(rules) and all(map(worth, row)) for row in worths):
        return False
    if worths[0][0] is None or worths[0][0] > 0:
        return False
    for place, letter in enumerate(speech):
        for state, x in enumerate(worths[place]):
            for h, c, after in rules.rows[state] if x is not None else ():
                y = worths[place + 1][after]
                if h == letter and (y is None or y > x + (c != caption[place])):
                    return False
    last = [x for x in worths[-1] if x is not None]
    return last != [] and min(last) == exchanges(mended, caption)


def row_behind(rules, row, letter, sign, most):
    told = []
    for state in range(len(rules)):
        found = [x + (c != sign) for x, moves in zip(row, rules.rows) if x is not None
                 for h, c, after in moves if h == letter and after == state]
        told.append(min(found) if found and min(found) <= most else None)
    return tuple(told)


def closure(rules, other, most, starts):
    """All cells to which some cells lead."""
    found = list(starts)
    seen = set(found)
    for state, row in found:
        for h, c, after in other.rows[state]:
            cell = (after, row_behind(rules, row, h, c, most))
            if cell not in seen:
                seen.add(cell)
                found.append(cell)
    return found


def order(cell, most):
    return (cell[0], tuple(most + 1 if x is None else x for x in cell[1]))


def widest_cells(rules, other, most, seed, count=12):
    """Cells with some to which nothing leads, put in their order; or None if not even the first one holds."""
    rng = random.Random(seed)
    starts = [(0, tuple(None if state else 0 for state in range(len(rules))))]
    if any(set(row) == {None} for _, row in closure(rules, other, most, starts)):
        return None
    for _ in range(count):
        row = tuple(rng.choice([None, *range(most + 1)]) for _ in rules.rows)
        more = [(rng.randrange(len(other)), row)]
        if not any(set(row) == {None} for _, row in closure(rules, other, most, more)):
            starts += more
    cells = closure(rules, other, most, starts)
    return tuple(sorted(set(cells), key=lambda cell: order(cell, most)))


def enough_holds(rules, other, most, thing):
    if type(thing) is not tuple or not thing or type(thing[0]) is not str:
        return False
    if thing[0] == "needs" and len(thing) == 3:
        if not oracle.text_of(other.heard, thing[1]) or not oracle.text_of(other.written, thing[2]):
            return False
        return oracle.led(other, 0, *thing[1:]) is not None and best_mended(rules, *thing[1:])[0] > most
    if thing[0] != "enough" or len(thing) != 2 or type(thing[1]) is not tuple:
        return False
    for cell in thing[1]:
        if type(cell) is not tuple or len(cell) != 2 or not oracle.state_of(other, cell[0]) or type(cell[1]) is not tuple:
            return False
        if len(cell[1]) != len(rules) or not all(x is None or (oracle.integer(x) and 0 <= x <= most) for x in cell[1]):
            return False
        if set(cell[1]) == {None}:
            return False
    told = [order(cell, most) for cell in thing[1]]
    if told != sorted(set(told)) or (0, tuple(None if state else 0 for state in range(len(rules)))) not in thing[1]:
        return False
    return set(closure(rules, other, most, thing[1])) == set(thing[1])


def right_pairs_in_order(rules, most):
    """The right pairs of at most so many signs, in order."""
    return sorted(oracle.right_pairs(rules, most), key=lambda pair: (len(pair[0]), tuple(zip(*pair))))


def firsts(rules, speech):
    """For each state to which a right caption of a speech leads the first such caption: letter by letter."""
    best = {0: ""}
    for letter in speech:
        after = {}
        for state, text in best.items():
            for h, c, end in rules.rows[state]:
                if h == letter:
                    after[end] = min(after.get(end, text + c), text + c)
        best = after
    return best


def back(one, other):
    """How many signs of one text stand behind those with which it and another text begin alike."""
    return len(one) - len(os.path.commonprefix([one, other]))


def list_from(best):
    """The list told by the first caption of each state."""
    pairs = sorted((text, state) for state, text in best.items())
    forks = [0] + [back(text, ahead) for (ahead, _), (text, _) in zip(pairs, pairs[1:])]
    return tuple((state, fork) for (_, state), fork in zip(pairs, forks))


def firsts_of_all(rules, speech):
    """The same as firsts, from all captions."""
    told = {}
    for text, state in sorted(oracle.ways(rules, 0, speech), reverse=True):
        told[state] = text
    return told


def captions_of(letters, many):
    return ("".join(text) for text in itertools.product(letters, repeat=many))
