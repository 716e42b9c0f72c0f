"""The game of a late writer and a speaker on the stands of a lag."""

from pacehouse.relations import letter_relations
from pacehouse.stands import open_states, stands_behind

START = (0, "")
SHUT = -1


def met_options(rules, lag):
    """For each stand to which a writer can come, for each heard letter the stands that can come then.

    None for a stand that is not open: there the speaker has won.
    """
    relations = letter_relations(rules)
    table = open_states(rules, lag)
    options = {}
    order = [START]
    while len(order) > 0:
        stand = order.pop()
        if stand in options:
            continue
        options[stand] = None
        if stand[0] in table[stand[1]]:
            ways = {letter: stands_behind(relations, lag, stand, letter) for letter in rules.heard}
            options[stand] = ways
            order.extend([after for afters in ways.values() for after in afters])
    return options


def lost_stands(options):
    """For each stand from which the speaker can force one that is not open a pair of a letter and a number.

    Behind the letter come stands with lesser numbers alone. Stands that are not open have SHUT and no letter.
    """
    lost = {stand: ("", SHUT) for stand in options if options[stand] is None}
    waits, ways = counted_ways(options)
    # Stands are lost in the order of their numbers, so the last option that is lost has the greatest one.
    order = list(lost)
    for stand, letter in waits:
        if waits[(stand, letter)] == 0 and stand not in lost:
            lost[stand] = (letter, 0)
            order.append(stand)
    at = 0
    while at < len(order):
        after = order[at]
        at += 1
        for stand, letter in ways.get(after, ()):
            waits[(stand, letter)] -= 1
            if waits[(stand, letter)] == 0 and stand not in lost:
                lost[stand] = (letter, lost[after][1] + 1)
                order.append(stand)
    return lost


def counted_ways(options):
    """How many stands can come behind each stand and letter; and for each stand behind which ones it can come."""
    waits = {}
    ways = {}
    for stand, letters in options.items():
        if letters is not None:
            for letter, afters in letters.items():
                waits[(stand, letter)] = len(afters)
                for after in afters:
                    ways.setdefault(after, []).append((stand, letter))
    return waits, ways


def forced_from(options, lost, start):
    """The lost stands, of any kind, to which their letters lead from a lost one, but those that are not open."""
    met = {}
    order = [start]
    while len(order) > 0:
        stand = order.pop()
        letter, number = lost[stand]
        if number != SHUT and stand not in met:
            met[stand] = True
            order.extend(options[stand][letter])
    return list(met)


def baffle_rows(options, lost):
    """The rows of a baffle: the lost stands to which their letters lead from the first one."""
    return forced_rows(options, lost, START)


def forced_rows(options, lost, start):
    """For each stand to which their letters lead from a lost one a row with its letter and its number."""
    return tuple(sorted([(*stand, *lost[stand]) for stand in forced_from(options, lost, start)]))


def plan_cells(rules, lag, lost):
    """The cells of a plan: the stands to which a writer comes who always takes the first sign that is not lost."""
    cells = {}
    order = [START]
    while len(order) > 0:
        stand = order.pop()
        if stand not in cells:
            chosen = [chosen_step(rules, lag, lost, stand, letter) for letter in rules.heard]
            cells[stand] = (stand[0], stand[1], "".join([sign for sign, _ in chosen]))
            order.extend([after for _, after in chosen])
    return tuple(sorted(list(cells.values())))


def chosen_step(rules, lag, lost, stand, letter):
    """The sign that is written when a letter is heard at a stand that is not lost, and the stand behind it."""
    state, waiting = stand
    waits = waiting + letter
    if len(waits) <= lag:
        return "", (state, waits)
    for h, c, after in rules.rows[state]:
        if h == waits[0] and (after, waits[1:]) not in lost:
            return c, (after, waits[1:])
    return "", stand
