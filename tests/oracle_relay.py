"""Slow looks at relays, straight from the document's words."""

import functools
import random

from pacehouse.rules import Rules
from tests import oracle

START = (0, "", 0, "")
SMALL = (("ab", "ab"), ("a", "xy"), ("ab", "x"))
# Hears what NEXT writes, and more.
WIDE = Rules("abc", "xy", ((("a", "x", 1), ("b", "y", 0), ("c", "x", 0), ("c", "y", 1)), (("a", "y", 0), ("b", "x", 1), ("c", "x", 2)), (
    ("a", "x", 2), ("b", "x", 2), ("c", "y", 2))))
# Two least pairs of lags: the middle letter one late and the last one three, or both two late.
EARLY = (
    Rules("ab", "ab", (
        (("a", "a", 0), ("a", "b", 1), ("b", "a", 1), ("b", "b", 2)), (("a", "b", 0), ("b", "b", 2)), (("b", "a", 0),))),
    Rules("ab", "ab", (
        (("a", "a", 1), ("a", "b", 2), ("b", "b", 0)), (("a", "a", 2), ("b", "a", 1), ("b", "b", 0)), (("a", "a", 1),))))
ONE_LETTER = Rules("ab", "a", ((("a", "a", 1), ("b", "a", 0)), (("a", "a", 0), ("b", "a", 1))))


def small(rules):
    return len(rules) <= 3 and len(rules.heard) <= 2 and len(rules.written) <= 2


def joined(one, other):
    return set(one.written) <= set(other.heard)


@functools.cache
def full_rules():
    """Full rules of up to 3 states and 2 letters each."""
    every = [rules for rules in oracle.NAMED if oracle.first_mute(rules) is None and small(rules)] + [ONE_LETTER]
    return every + oracle.many_full(430, 80, (("ab", "ab"), ("a", "ab"), ("ab", "a"), ("a", "a"), ("b", "ab")), most=3)


def full_couples(seed, count):
    """Couples of full rules that can be joined."""
    rng = random.Random(seed)
    every = full_rules()
    found = []
    while len(found) < count:
        one, other = rng.choice(every), rng.choice(every)
        if joined(one, other):
            found.append((one, other))
    return [(oracle.NEXT, oracle.NEXT), (oracle.NEXT, oracle.ANY), (oracle.ANY, oracle.NEXT), (oracle.TURNS, oracle.NEXT),
            (oracle.NEXT, WIDE), (oracle.FIRST, oracle.TURNS), (oracle.ECHO, oracle.NEXT), (ONE_LETTER, WIDE)] + found


def is_right_through(one, other, speech, caption):
    """Whether a pair is right by the whole: some middle text is right below the speech, and the caption below it."""
    return any((text, caption) in told for text, _ in oracle.ways(one, 0, speech)
               for told in [{(text, low) for low, _ in oracle.ways(other, 0, text)}])


def is_open(one, other, stand):
    state, waiting, other_state, middle = stand
    return any(oracle.ends(other, {other_state}, middle + text) for text, _ in oracle.ways(one, state, waiting))


def stands(one, other, lags):
    """All stands of two lags, whether a relay comes there or not."""
    return [(state, waiting, other_state, middle) for state in range(len(one)) for waiting in oracle.texts(one.heard, lags[0])
            for other_state in range(len(other)) for middle in oracle.texts(one.written, lags[1] - len(waiting))]


def choices(one, other, lags, stand, letter):
    """All ((m, c), stand) behind a letter, whether open or not."""
    state, waiting, other_state, middle = stand
    found = []
    waiting += letter
    fixed = [("", state, waiting)]
    if len(waiting) > lags[0]:
        fixed = [(m, after, waiting[1:]) for h, m, after in one.rows[state] if h == waiting[0]]
    for m, after, left in fixed:
        text = middle + m
        if len(left + text) > lags[1]:
            found += [((m, c), (after, left, behind, text[1:])) for h, c, behind in other.rows[other_state] if h == text[0]]
        else:
            found.append(((m, ""), (after, left, other_state, text)))
    return found


def winning(one, other, lags):
    """The stands, met or not, from which a relay always comes to open stands."""
    good = {stand for stand in stands(one, other, lags) if is_open(one, other, stand)}
    while True:
        kept = {stand for stand in good if all(
            any(after in good for _, after in choices(one, other, lags, stand, letter)) for letter in one.heard)}
        if kept == good:
            return good
        good = kept


def widest_plan(one, other, lags):
    """The plan with a cell of each stand from which the relay wins, and the last pairs that will do."""
    good = winning(one, other, lags)
    return ("plan", tuple(sorted(
        (*stand, tuple(max(pair for pair, after in choices(one, other, lags, stand, letter) if after in good) for letter in one.heard))
        for stand in good)))


def widest_baffle(one, other, lags, shift=3):
    """The baffle with a row of each stand from which the speaker wins, open or not, last letters first."""
    every = stands(one, other, lags)
    good = winning(one, other, lags)
    numbers = {stand: shift - 1 for stand in every if not is_open(one, other, stand)}
    rows = [(*stand, one.heard[-1], shift) for stand in numbers]
    while len(numbers) < len(every) - len(good):
        fresh = []
        for stand in every:
            for letter in reversed(one.heard):
                behind = [after for _, after in choices(one, other, lags, stand, letter)]
                if stand not in numbers and all(after in numbers for after in behind):
                    fresh.append((*stand, letter, shift + max([numbers[after] + 1 for after in behind], default=0)))
                    break
        numbers.update({row[:4]: row[5] for row in fresh})
        rows.extend(fresh)
    return ("baffle", tuple(sorted(rows)))


def relay_holds(one, other, lags, thing):
    if type(thing) is not tuple or len(thing) != 2 or type(thing[0]) is not str or type(thing[1]) is not tuple:
        return False
    many = {"plan": 5, "baffle": 6}.get(thing[0])
    for row in thing[1]:
        if type(row) is not tuple or len(row) != many or not oracle.state_of(one, row[0]) or not oracle.state_of(other, row[2]):
            return False
        if not oracle.text_of(one.heard, row[1]) or not oracle.text_of(one.written, row[3]):
            return False
        if len(row[1]) > lags[0] or len(row[1] + row[3]) > lags[1]:
            return False
        if many == 6 and (row[4] not in list(one.heard) or not oracle.integer(row[5]) or row[5] < 0):
            return False
        if many == 5 and not signs_shaped(one, row[4]):
            return False
    if many is None or not oracle.sorted_table(thing[1], 4):
        return False
    table = {row[:4]: row for row in thing[1]}
    return START in table and all(row_holds(one, other, lags, table, row) for row in thing[1])


def signs_shaped(one, signs):
    if type(signs) is not tuple or len(signs) != len(one.heard):
        return False
    return all(type(pair) is tuple and len(pair) == 2 and all(type(text) is str for text in pair) for pair in signs)


def row_holds(one, other, lags, table, row):
    stand = row[:4]
    if len(row) == 6:
        return all(not is_open(one, other, after) or (after in table and table[after][5] < row[5])
                   for _, after in choices(one, other, lags, stand, row[4]))
    return is_open(one, other, stand) and all(
        any(pair == told and after in table for told, after in choices(one, other, lags, stand, letter))
        for letter, pair in zip(one.heard, row[4]))


def along(one, other, cells, speech):
    """For each beginning of a speech what is fixed by the cells, and the stand then; at last what is written to the end."""
    lags = (max(len(cell[1]) for cell in cells), max(len(cell[1] + cell[3]) for cell in cells))
    table = {cell[:4]: cell[4] for cell in cells}
    told = [("", "", START)]
    for letter in speech:
        text, caption, stand = told[-1]
        m, c = table[stand][one.heard.index(letter)]
        told.append((text + m, caption + c, dict(choices(one, other, lags, stand, letter))[(m, c)]))
    text, caption, (state, waiting, other_state, middle) = told[-1]
    last = min(text for text, _ in oracle.ways(one, state, waiting) if oracle.ends(other, {other_state}, middle + text))
    return told, (text + last, caption + min(low for low, _ in oracle.ways(other, other_state, middle + last)))
