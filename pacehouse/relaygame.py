"""The game of a relay and a speaker on the relay stands (state, waiting, other_state, middle) of two lags.

Lags are a pair here: the one of the first house, and the one of both together.
"""

from pacehouse.captioning import reached
from pacehouse.lategame import forced_rows, lost_stands

START = (0, "", 0, "")


def led_together(one, other, places, letter):
    """The pairs of states to which a heard letter leads from some such pairs, whatever both houses write."""
    return sorted({(after, behind) for state, other_state in places for h, m, after in one.rows[state] if h == letter
                   for g, _, behind in other.rows[other_state] if g == m})


def is_open_stand(one, other, stand):
    """Whether some middle text leads the waiting letters on, and some caption what is in the middle then."""
    state, waiting, other_state, middle = stand
    places = [(state, behind) for behind in reached(other, other_state, middle)]
    for letter in waiting:
        places = led_together(one, other, places, letter)
    return len(places) > 0


def ways_behind(one, other, lags, stand, letter):
    """For each pair (m, c) that can be fixed when a letter is heard, in order, this pair and the stand behind it."""
    state, waiting, other_state, middle = stand
    waits = waiting + letter
    fixed = [("", state, waits)]
    if len(waits) > lags[0]:
        fixed = [(m, after, waits[1:]) for h, m, after in one.rows[state] if h == waits[0]]
    ways = []
    for m, after, left in fixed:
        text = middle + m
        if len(left) + len(text) <= lags[1]:
            ways.append(((m, ""), (after, left, other_state, text)))
        else:
            ways.extend([((m, c), (after, left, behind, text[1:])) for g, c, behind in other.rows[other_state]
                         if g == text[0]])
    return ways


def met_ways(one, other, lags):
    """For each stand to which a relay can come, for each heard letter the ways on; None for one that is not open."""
    ways = {}
    queue = [START]
    while len(queue) > 0:
        stand = queue.pop()
        if stand not in ways:
            ways[stand] = None
            if is_open_stand(one, other, stand):
                ways[stand] = {letter: ways_behind(one, other, lags, stand, letter) for letter in one.heard}
                queue.extend([after for told in ways[stand].values() for _, after in told])
    return ways


def relay_options(ways):
    """For each stand and heard letter just the stands that can come then; None for a stand that is not open."""
    return {stand: None if letters is None else stands_of(letters) for stand, letters in ways.items()}


def stands_of(letters):
    """For each heard letter just the stands that can come then."""
    return {letter: [after for _, after in told] for letter, told in letters.items()}


def relay_paper(one, other, lags):
    """A paper for two lags: a plan of a relay, or a baffle."""
    ways = met_ways(one, other, lags)
    options = relay_options(ways)
    lost = lost_stands(options)
    if START in lost:
        return ("baffle", forced_rows(options, lost, START))
    return ("plan", relay_cells(ways, lost))


def has_relay(one, other, lags):
    """Whether there is a plan of two lags."""
    return START not in lost_stands(relay_options(met_ways(one, other, lags)))


def relay_cells(ways, lost):
    """The cells of a plan: the stands to which a relay comes that always fixes the first pair that is not lost."""
    cells = {}
    queue = [START]
    while len(queue) > 0:
        stand = queue.pop()
        if stand not in cells:
            chosen = [[way for way in told if way[1] not in lost][0] for told in ways[stand].values()]
            cells[stand] = (*stand, tuple([pair for pair, _ in chosen]))
            queue.extend([after for _, after in chosen])
    return tuple(sorted(list(cells.values())))
