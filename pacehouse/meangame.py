"""The game of a writer who takes back as few signs as can be in the long run, and a speaker who wants many taken back.

Scenes are places in a list here, the first scene at place 0. For each place and heard letter, table has the ways on,
pairs (worth, place): at first their costs, and then what a writer gains by them.

At a fraction p / q the writer gains p - q * cost by each way. Gains are multiplied by more than there are places, and 1
is taken off each: so no round of places gains nothing, and one gains exactly if its mean is below the fraction. The
writer may also stop at any place behind any letter. The span of a place is the least that a speaker can have the writer
gain until the writer stops, ENDLESS if the speaker cannot come to where the writer stops. From the choice to stop
everywhere the writer takes better ways, round by round, until none is better (H. Bjorklund, S. Vorobyov 2007).
"""

from math import gcd

ENDLESS = 1000000000000000000000000
STOP = -1


def least_mean_of(costs):
    """The least mean from the place 0, with what the writer takes, and what the speaker says, to have it.

    For each place and letter the number of the way that the writer takes (STOP where the writer never comes), and for
    each place the number of the letter that the speaker says.
    """
    taken, _ = best_ways(costs, above_all(costs))
    while True:
        mean = worst_mean(costs, taken)
        better, said = best_ways(costs, mean)
        if STOP in better[0]:
            return mean, taken, said
        taken = better


def above_all(costs):
    """A fraction above the means of all writers."""
    return (1 + max([cost for letters in costs for ways in letters for cost, _ in ways]), 1)


def best_ways(costs, mean):
    """What the writer takes to stay below a mean for good, and what the speaker says to keep others from it."""
    table = gains(costs, mean)
    taken = [[STOP for _ in letters] for letters in table]
    while True:
        spans = spans_of(table, taken)
        better = better_ways(table, taken, spans)
        if better == taken:
            return kept_ways(taken, spans), [said_first(table, taken, spans, place) for place in range(len(table))]
        taken = better


def gains(costs, mean):
    """What the writer gains by each way at a fraction."""
    p, q = mean
    many = len(costs) + 1
    return [[[(many * (p - q * cost) - 1, after) for cost, after in ways] for ways in letters] for letters in costs]


def spans_of(table, taken):
    """The spans of all places if the writer takes these ways."""
    spans = [ENDLESS for _ in table]
    while True:
        shorter = [min(lengths(table, taken, spans, place)) for place in range(len(table))]
        if shorter == spans:
            return spans
        spans = shorter


def lengths(table, taken, spans, place):
    """For each letter at a place what the writer gains until the stop."""
    return [gained(ways, number, spans) for ways, number in zip(table[place], taken[place])]


def gained(ways, number, spans):
    """What the writer gains until the stop who takes the way of this number, or stops at once."""
    if number == STOP:
        return 0
    gain, after = ways[number]
    if spans[after] == ENDLESS:
        return ENDLESS
    return gain + spans[after]


def better_ways(table, taken, spans):
    """What the writer takes who leaves a way, or the stop, for the best one only if that gains more."""
    return [[better_way(ways, number, spans) for ways, number in zip(letters, numbers)]
            for letters, numbers in zip(table, taken)]


def better_way(ways, number, spans):
    """The number of the first way that gains most, or the one that is told if none gains more."""
    best = number
    for other in range(len(ways)):
        if gained(ways, other, spans) > gained(ways, best, spans):
            best = other
    return best


def kept_ways(taken, spans):
    """What the writer takes, but STOP where the speaker could come to where the writer stops."""
    return [[number if spans[place] == ENDLESS else STOP for number in numbers] for place, numbers in enumerate(taken)]


def said_first(table, taken, spans, place):
    """The number of the first letter by which the writer gains least from a place."""
    told = lengths(table, taken, spans, place)
    return told.index(min(told))


def worst_mean(costs, taken):
    """The greatest mean of a round of places to which a speaker can come, from 0, if the writer takes these ways."""
    most = greatest_costs(costs, taken)
    many = len(most) - 1
    worst = (0, 1)
    for place, whole in most[many].items():
        # R. M. Karp 1978: of walks of as many steps as there are places, the part behind some step is rounds alone.
        least = (whole + 1, 1)
        for steps in range(many):
            if place in most[steps]:
                mean = (whole - most[steps][place], many - steps)
                least = mean if is_below(mean, least) else least
        worst = least if is_below(worst, least) else worst
    divisor = gcd(worst[0], worst[1])
    return (worst[0] // divisor, worst[1] // divisor)


def is_below(one, other):
    """Whether one pair (p, q) is less than another one, as fractions."""
    return one[0] * other[1] < other[0] * one[1]


def greatest_costs(costs, taken):
    """For each number of steps, up to the number of places that are met, the places to which so many steps lead from 0.

    For each of them the greatest cost of such steps, if the writer takes these ways.
    """
    most = [{0: 0}]
    met = {0: True}
    while len(most) <= len(met):
        further = {}
        for place, cost in most[-1].items():
            for ways, number in zip(costs[place], taken[place]):
                step, after = ways[number]
                further[after] = max(further.get(after, 0), cost + step)
                met[after] = True
        most.append(further)
    return most
