"""Slow looks at rules, straight from the document's words, beside which the program is held."""

import itertools
import random

from pacehouse.rules import Rules

FREELY = (("a", "a", 0), ("a", "b", 0), ("b", "a", 0), ("b", "b", 0))
TOLD = (("a", "a", 1), ("a", "b", 2), ("b", "a", 1), ("b", "b", 2))
NEXT = Rules("ab", "ab", (TOLD, (("a", "a", 1), ("a", "b", 2)), (("b", "a", 1), ("b", "b", 2))))
FAR = Rules("abx", "ab", (
    TOLD + (("x", "a", 1), ("x", "b", 2)),
    (("a", "a", 3), ("x", "a", 1)),
    (("b", "a", 3), ("x", "a", 2)),
    (("a", "a", 3), ("b", "a", 3), ("x", "a", 3)),
))
TURNS = Rules("ab", "ab", (TOLD, (("a", "a", 0), ("a", "b", 0)), (("b", "a", 0), ("b", "b", 0))))
ONCE = Rules("ab", "ab", (
    TOLD, (("a", "a", 3), ("a", "b", 3)), (("b", "a", 3), ("b", "b", 3)),
    tuple((h, c, 3) for h, c, _ in FREELY),
))
FIRST = Rules("ab", "ab", (TOLD, (("a", "a", 1), ("b", "a", 1)), (("a", "a", 2), ("b", "b", 2))))
ANY = Rules("ab", "ab", (FREELY,))
ECHO = Rules("ab", "ab", ((("a", "a", 0), ("b", "b", 0)),))
END = Rules("ab", "ab", (
    (("a", "a", 0), ("a", "b", 1), ("b", "a", 0), ("b", "b", 1)), (("a", "b", 1), ("b", "b", 1))))
PROMISE = Rules("ab", "ab", (TOLD, (("a", "a", 1),), (("a", "a", 2), ("b", "a", 2))))
LATE = Rules("ab", "ab", ((("a", "a", 1), ("a", "b", 2)), (("a", "a", 1),), (("a", "a", 2), ("b", "a", 2))))
# Each sign is the letter that is heard two places later: a lag of 2.
LATER = Rules("ab", "ab", (
    (("a", "a", 1), ("a", "b", 2), ("b", "a", 1), ("b", "b", 2)),
    (("a", "a", 3), ("a", "b", 4), ("b", "a", 3), ("b", "b", 4)),
    (("a", "a", 5), ("a", "b", 6), ("b", "a", 5), ("b", "b", 6)),
    (("a", "a", 3), ("a", "b", 4)),
    (("a", "a", 5), ("a", "b", 6)),
    (("b", "a", 3), ("b", "b", 4)),
    (("b", "a", 5), ("b", "b", 6)),
))
# States without moves, and states to which nothing leads.
DEAD = Rules("ab", "xy", ((("a", "x", 1), ("a", "y", 3), ("b", "x", 3)), (), (("b", "y", 2),), (("a", "x", 0),)))
SILENT = Rules("a", "x", ((),))
NAMED = (NEXT, FAR, TURNS, ONCE, FIRST, ANY, ECHO, END, PROMISE, LATE, LATER, DEAD, SILENT)


def random_rules(rng, heard, written, most, density):
    """Rules of up to so many states; of ten moves that might be there as many are there as density says."""
    many = rng.randint(1, most)
    rows = []
    for _ in range(many):
        rows.append(tuple((h, c, rng.randrange(many)) for h in heard for c in written if rng.random() * 10 < density))
    return Rules(heard, written, tuple(rows))


def many_rules(seed, count, shapes=(("ab", "ab"), ("ab", "xyz"), ("abc", "xy"), ("b", "ac")), most=5):
    rng = random.Random(seed)
    return [random_rules(rng, *rng.choice(shapes), most, rng.choice((4, 6, 8, 9))) for _ in range(count)]


def many_full(seed, count, shapes=(("ab", "ab"), ("ab", "xyz"), ("abc", "xy"), ("a", "xy")), most=4):
    """Random rules that are full, by the look of this file; one in three or so lets a writer write at once."""
    rng = random.Random(seed)
    found = []
    while len(found) < count:
        rules = random_rules(rng, *rng.choice(shapes), most, rng.choice((3, 4, 5, 6)))
        if first_mute(rules) is None and (len(found) % 3 == 0 or (0, "") not in winning(rules, 0)):
            found.append(rules)
    return found


def texts(letters, most):
    """All texts of at most so many letters, shorter ones first, of one length the lesser ones."""
    for many in range(most + 1):
        for text in itertools.product(letters, repeat=many):
            yield "".join(text)


def pairs(heard, written, most):
    """All pairs of at most so many signs, in order."""
    signs = list(itertools.product(heard, written))
    for many in range(most + 1):
        for text in itertools.product(signs, repeat=many):
            yield "".join(h for h, _ in text), "".join(c for _, c in text)


def ways(rules, state, speech):
    """All (caption, state) that lead a speech on from a state."""
    if speech == "":
        return [("", state)]
    return [(c + caption, end) for h, c, after in rules.rows[state] if h == speech[0]
            for caption, end in ways(rules, after, speech[1:])]


def led(rules, state, speech, caption):
    if len(speech) != len(caption):
        return None
    for letter, sign in zip(speech, caption):
        state = next((after for h, c, after in rules.rows[state] if (h, c) == (letter, sign)), None)
        if state is None:
            return None
    return state


def right_pairs(rules, most):
    """The set of the right pairs of at most so many signs."""
    return {(speech, caption) for speech in texts(rules.heard, most) for caption, _ in ways(rules, 0, speech)}


def ends(rules, states, text):
    """The set of the states to which a text leads from some states."""
    found = set(states)
    for letter in text:
        found = {after for state in found for h, _, after in rules.rows[state] if h == letter}
    return found


def first_mute(rules):
    """The first speech without a right caption: sets of states, length by length."""
    layer = [("", frozenset({0}))]
    seen = set()
    while layer:
        longer = []
        for speech, states in layer:
            for letter in rules.heard:
                after = frozenset(ends(rules, states, letter))
                if not after:
                    return speech + letter
                if after not in seen:
                    seen.add(after)
                    longer.append((speech + letter, after))
        layer = longer
    return None


def states_left_open(rules):
    """How many things right pairs leave open: states that are met, told apart by all pairs up to their number."""
    met = {0}
    while True:
        more = met | {after for state in met for _, _, after in rules.rows[state]}
        if more == met:
            break
        met = more
    marked = set()
    grown = True
    while grown:
        grown = False
        for s, t in itertools.product(sorted(met), repeat=2):
            ahead, behind = ({(h, c): after for h, c, after in rules.rows[state]} for state in (s, t))
            unlike = ahead.keys() != behind.keys() or any((ahead[x], behind[x]) in marked for x in ahead)
            if unlike and (s, t) not in marked:
                marked.add((s, t))
                grown = True
    return len({tuple(t for t in sorted(met) if (s, t) not in marked) for s in met})


def integer(thing):
    return type(thing) is int


def state_of(rules, thing):
    return integer(thing) and 0 <= thing < len(rules.rows)


def text_of(letters, thing):
    return type(thing) is str and set(thing) <= set(letters)


def sorted_table(things, keys):
    """Whether tuples are sorted, none twice, none twice with the same first parts."""
    firsts = [thing[:keys] for thing in things]
    return list(things) == sorted(set(things)) and len(set(firsts)) == len(firsts)


def compared_holds(one, other, thing):
    if type(thing) is not tuple or not thing or type(thing[0]) is not str:
        return False
    if thing[0] == "apart" and len(thing) == 3:
        if type(thing[1]) is not str or type(thing[2]) is not str:
            return False
        return (led(one, 0, thing[1], thing[2]) is None) != (led(other, 0, thing[1], thing[2]) is None)
    if thing[0] != "same" or len(thing) != 2 or type(thing[1]) is not tuple:
        return False
    for pair in thing[1]:
        if type(pair) is not tuple or len(pair) != 2 or not state_of(one, pair[0]) or not state_of(other, pair[1]):
            return False
    if not sorted_table(thing[1], 2) or (0, 0) not in thing[1]:
        return False
    for s, t in thing[1]:
        ahead, behind = {x[:2]: x[2] for x in one.rows[s]}, {x[:2]: x[2] for x in other.rows[t]}
        if set(ahead) != set(behind) or any((ahead[x], behind[x]) not in thing[1] for x in ahead):
            return False
    return True


def is_open(rules, state, waiting):
    return ends(rules, {state}, waiting) != set()


def stands(rules, lag):
    return [(state, waiting) for state in range(len(rules.rows)) for waiting in texts(rules.heard, lag)]


def choices(rules, lag, stand, letter):
    """All (sign, stand) of a writer behind a letter, whether open or not."""
    state, waiting = stand
    if len(waiting) < lag:
        return [("", (state, waiting + letter))]
    every = waiting + letter
    return [(c, (after, every[1:])) for h, c, after in rules.rows[state] if h == every[0]]


def winning(rules, lag):
    """The stands, met or not, from which a writer of a lag always comes to open stands."""
    good = {stand for stand in stands(rules, lag) if is_open(rules, *stand)}
    while True:
        kept = {stand for stand in good if all(
            any(after in good for _, after in choices(rules, lag, stand, letter)) for letter in rules.heard)}
        if kept == good:
            return good
        good = kept


def widest_plan(rules, lag):
    """The plan with a cell of each stand from which the writer wins, and the last signs that will do."""
    good = winning(rules, lag)
    cells = []
    for stand in good:
        signs = [max(c for c, after in choices(rules, lag, stand, letter) if after in good) for letter in rules.heard]
        cells.append((*stand, "".join(signs)))
    return ("plan", tuple(sorted(cells)))


def widest_baffle(rules, lag, shift=3):
    """The baffle with a row of each stand from which the speaker wins, open or not, last letters first."""
    good = winning(rules, lag)
    numbers = {stand: shift - 1 for stand in stands(rules, lag) if not is_open(rules, *stand)}
    rows = [(*stand, rules.heard[-1], shift) for stand in numbers]
    while len(numbers) < len(stands(rules, lag)) - len(good):
        fresh = []
        for stand in stands(rules, lag):
            for letter in reversed(rules.heard):
                behind = [after for _, after in choices(rules, lag, stand, letter)]
                if stand not in numbers and all(after in numbers for after in behind):
                    number = shift + max([numbers[after] + 1 for after in behind], default=0)
                    fresh.append((*stand, letter, number))
                    break
        numbers.update({row[:2]: row[3] for row in fresh})
        rows.extend(fresh)
    return ("baffle", tuple(sorted(rows)))


def lag_holds(rules, lag, thing):
    if type(thing) is not tuple or len(thing) != 2 or type(thing[0]) is not str or type(thing[1]) is not tuple:
        return False
    many = {"plan": 3, "baffle": 4}.get(thing[0])
    for row in thing[1]:
        if type(row) is not tuple or len(row) != many or not state_of(rules, row[0]):
            return False
        if not text_of(rules.heard, row[1]) or len(row[1]) > lag or type(row[2]) is not str:
            return False
        if many == 4 and (row[2] not in list(rules.heard) or not integer(row[3]) or row[3] < 0):
            return False
    if many is None or not sorted_table(thing[1], 2):
        return False
    table = {row[:2]: row for row in thing[1]}
    return (0, "") in table and all(row_holds(rules, lag, table, row) for row in thing[1])


def row_holds(rules, lag, table, row):
    stand = row[:2]
    if len(row) == 4:
        behind = [after for _, after in choices(rules, lag, stand, row[2])]
        return all(not is_open(rules, *after) or (after in table and table[after][3] < row[3]) for after in behind)
    signs = [""] * len(rules.heard) if len(stand[1]) < lag else list(row[2])
    if not is_open(rules, *stand) or "".join(signs) != row[2] or len(signs) != len(rules.heard):
        return False
    return all(any(c == sign and after in table for c, after in choices(rules, lag, stand, letter))
               for letter, sign in zip(rules.heard, signs))


def class_of(rules, text):
    return tuple(tuple(sorted(ends(rules, {state}, text))) for state in range(len(rules.rows)))


def behind_class(rules, told, letter):
    return tuple(tuple(sorted(ends(rules, states, letter))) for states in told)


def all_classes(rules):
    found = [class_of(rules, "")]
    for told in found:
        for letter in rules.heard:
            if behind_class(rules, told, letter) not in found:
                found.append(behind_class(rules, told, letter))
    return found


def long_classes(rules):
    """The classes of texts that have as many letters as there are classes, or more: some prefix's class comes again."""
    layer = {class_of(rules, "")}
    for _ in all_classes(rules):
        layer = {behind_class(rules, told, letter) for told in layer for letter in rules.heard}
    long, layers = set(), set()
    while frozenset(layer) not in layers:
        layers.add(frozenset(layer))
        long |= layer
        layer = {behind_class(rules, told, letter) for told in layer for letter in rules.heard}
    return tuple(sorted(long))


def pump_holds(rules, thing):
    if type(thing) is not tuple or len(thing) != 3 or not all(text_of(rules.heard, text) for text in thing):
        return False
    return thing[1] != "" and class_of(rules, thing[0]) == class_of(rules, thing[0] + thing[1])


def kept_places(rules):
    """The places (state, long class) from which a writer who knows the next long piece always goes on."""
    long = long_classes(rules)
    good = {(state, told) for state in range(len(rules.rows)) for told in long}
    while True:
        kept = {(state, told) for state, told in good
                if all(any((after, behind) in good for after in told[state]) for behind in long)}
        if kept == good:
            return good
        good = kept


def widest_blocks(rules):
    """Blocks with a cell of each place that is kept, and the last states that will do."""
    long, good = long_classes(rules), kept_places(rules)
    return ("ever", tuple(sorted(
        (state, told, tuple(max(after for after in told[state] if (after, behind) in good) for behind in long))
        for state, told in good)))


def class_shaped(rules, thing):
    if type(thing) is not tuple or len(thing) != len(rules.rows):
        return False
    return all(type(states) is tuple and all(state_of(rules, state) for state in states)
               and list(states) == sorted(set(states)) for states in thing)


def never_holds(rules, thing):
    if type(thing) is not tuple or not thing or type(thing[0]) is not str or type(thing[-1]) is not tuple:
        return False
    for row in thing[-1]:
        if type(row) is not tuple or len(row) < 2 or not state_of(rules, row[0]) or not class_shaped(rules, row[1]):
            return False
    if thing[0] == "ever" and len(thing) == 2:
        return blocks_hold(rules, thing[1])
    return thing[0] == "never" and len(thing) == 3 and pump_holds(rules, thing[1]) and chain_holds(rules, *thing[1:])


def blocks_hold(rules, cells):
    long = long_classes(rules)
    for cell in cells:
        if len(cell) != 3 or cell[1] not in long or type(cell[2]) is not tuple or len(cell[2]) != len(long):
            return False
        if not all(state_of(rules, state) and state in cell[1][cell[0]] for state in cell[2]):
            return False
    places = [cell[:2] for cell in cells]
    return sorted_table(cells, 2) and all((0, told) in places for told in long) and all(
        place in places for cell in cells for place in zip(cell[2], long))


def chain_holds(rules, pump, rows):
    for row in rows:
        if len(row) != 4 or not pump_holds(rules, row[2]) or not integer(row[3]) or row[3] < 0:
            return False
    numbers = {row[:2]: row[3] for row in rows}
    if not sorted_table(rows, 2) or (0, class_of(rules, pump[0] + pump[2])) not in numbers:
        return False
    for state, told, onward, number in rows:
        behind = class_of(rules, onward[0] + onward[2])
        if any(behind[after] and numbers.get((after, behind), number) >= number for after in told[state]):
            return False
    return True
