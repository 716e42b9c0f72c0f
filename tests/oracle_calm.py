"""Slow looks at scenes, means and totals, straight from the document's words: all scenes, met or not."""

import os.path
import random
from fractions import Fraction

from pacehouse.rules import Rules
from tests import oracle

FIRST = (0, "", "")


def from_moves(*rows):
    """Rules over a and b from rows such as "aa2 ab1"."""
    return Rules("ab", "ab", tuple(tuple((move[0], move[1], int(move[2])) for move in row.split()) for row in rows))


# Rules with (reach, least mean, least total), each of them found by the slow looks below.
KINDS = (
    (from_moves("ab1 ba3 bb2", "ab1 ba1", "bb0", "ab1"), 1, (0, 1), 1),
    (from_moves("ab1 ba2 bb3", "aa1 bb1", "ab0", "ba3 bb0"), 1, (0, 1), 2),
    (from_moves("ab1 ba2 bb3", "aa1 bb1", "ab0", "ba3 bb0"), 2, (0, 1), 2),
    (from_moves("aa2 ab1 bb0", "aa1 ab2", "ba2 bb1"), 1, (1, 1), None),
    (from_moves("aa2 ab1 bb0", "aa1 ab2", "ba2 bb1"), 2, (1, 1), None),
    (from_moves("ab0 ba2 bb1", "ba0", "ab0"), 1, (1, 2), None),
    (from_moves("aa0 ba1", "aa2 ab3 ba0", "ab0", "bb0"), 1, (1, 3), None),
    (from_moves("aa2 ab3 ba0", "bb0", "ba3 bb2", "aa3 ab1"), 1, (2, 3), None),
    (from_moves("ab2 ba3 bb1", "ba0", "aa2 bb2", "aa0 ab1"), 2, (1, 4), None),
    (from_moves("ab0 ba2 bb3", "aa2 ab3", "ab1 bb0", "ab2"), 2, (2, 3), None),
    (from_moves("aa0 ba3 bb2", "ba3", "ba0", "aa3 ab1 ba2"), 2, (3, 4), None),
)


def promising_rules(rng, many):
    """Rules in which a sign often promises what is heard next: states may go on with one heard letter alone."""
    bound = ["ab"] + [rng.choice(("ab", "a", "b")) for _ in range(many - 1)]
    return Rules("ab", "ab", tuple(
        tuple((h, c, rng.randrange(many)) for h in heard for c in "ab" if rng.random() < 0.75) for heard in bound))


def many_calm(seed, count, reach, most=4, scenes_at_most=40):
    """Random rules with a plan of the lag reach and none of the lag 0, as many kinds of means among them as can be."""
    rng = random.Random(seed)
    found = []
    while len(found) < count:
        rules = promising_rules(rng, rng.randint(3, most))
        if oracle.first_mute(rules) is None and len(scenes(rules, reach)) <= scenes_at_most:
            if FIRST[:2] in oracle.winning(rules, reach) and FIRST[:2] not in oracle.winning(rules, 0):
                found.append(rules)
    return found


def scenes(rules, reach):
    """All scenes of a reach."""
    return [(state, tail, caption) for state in range(len(rules.rows)) for tail in oracle.texts(rules.heard, reach)
            for caption, _ in oracle.ways(rules, state, tail)]


def is_scene(rules, reach, thing):
    if type(thing) is not tuple or len(thing) != 3 or not oracle.state_of(rules, thing[0]):
        return False
    if not oracle.text_of(rules.heard, thing[1]) or not oracle.text_of(rules.written, thing[2]):
        return False
    return len(thing[1]) <= reach and oracle.led(rules, *thing) is not None


def answers(rules, scene, letter):
    return tuple(sorted(caption for caption, _ in oracle.ways(rules, scene[0], scene[1] + letter)))


def cost(shown, answer):
    return len(shown) - len(os.path.commonprefix([shown, answer]))


def behind(rules, reach, scene, letter, answer):
    state, tail, _ = scene
    if len(answer) <= reach:
        return (state, tail + letter, answer)
    heard = tail + letter
    return (oracle.led(rules, state, heard[0], answer[0]), heard[1:], answer[1:])


def steps(rules, reach):
    """For each scene and letter all (answer, cost, scene behind)."""
    return {scene: {letter: [(answer, cost(scene[2], answer), behind(rules, reach, scene, letter, answer))
                             for answer in answers(rules, scene, letter)] for letter in rules.heard}
            for scene in scenes(rules, reach)}


def calm_numbers(rules, reach, p, q):
    """The least numbers of calm cells, of all scenes that can have some."""
    table = steps(rules, reach)
    numbers = {scene: 0 for scene in table}
    top = len(table) * max(1, q * reach)
    return risen(numbers, top, lambda scene, numbers: max(
        min((q * a - p + numbers[after] for _, a, after in ways if after in numbers), default=top + 1)
        for ways in table[scene].values()))


def restless_numbers(rules, reach, p, q):
    """The least numbers of restless cells, of all scenes that can have some."""
    table = steps(rules, reach)
    numbers = {scene: 0 for scene in table}
    top = len(table) * max(1, p, q * reach)
    return risen(numbers, top, lambda scene, numbers: min(
        max((p - q * a + numbers[after] if after in numbers else top + 1 for _, a, after in ways), default=0)
        for ways in table[scene].values()))


def risen(numbers, top, asked):
    """The numbers that are raised, round by round, to what is asked; what is asked more than top is left out."""
    while True:
        higher = {scene: max(number, asked(scene, numbers)) for scene, number in numbers.items()}
        higher = {scene: number for scene, number in higher.items() if number <= top}
        if higher == numbers:
            return numbers
        numbers = higher


def fractions_up_to(most, greatest):
    """All fractions from 0 to a greatest whole number with denominators of at most most, ascending."""
    return sorted({Fraction(p, q) for q in range(1, most + 1) for p in range(greatest * q + 1)})


def least_mean(rules, reach):
    """The least fraction for which the first scene has a number in calm cells: the steps of all such fractions halved."""
    table = fractions_up_to(len(scenes(rules, reach)), max(reach, 1))
    low, high = 0, len(table) - 1
    while low < high:
        middle = (low + high) // 2
        told = table[middle]
        if FIRST in calm_numbers(rules, reach, told.numerator, told.denominator):
            high = middle
        else:
            low = middle + 1
    return (table[low].numerator, table[low].denominator)


def least_total(rules, reach):
    """The least number of the first scene in calm cells at nought."""
    return calm_numbers(rules, reach, 0, 1).get(FIRST)


def widest_calm(rules, reach, p, q, shift=0):
    """Calm cells with a cell of each scene that can have one, greater numbers, and the last answers that will do."""
    table, numbers = steps(rules, reach), calm_numbers(rules, reach, p, q)
    cells = []
    for scene, number in numbers.items():
        told = [max(answer for answer, a, after in table[scene][letter]
                    if after in numbers and q * a - p + numbers[after] <= number) for letter in rules.heard]
        cells.append((*scene, number + shift, tuple(told)))
    return tuple(sorted(cells))


def widest_restless(rules, reach, p, q, shift=0):
    """Restless cells with a cell of each scene that can have one, greater numbers, and the last letters that will do."""
    table, numbers = steps(rules, reach), restless_numbers(rules, reach, p, q)
    cells = []
    for scene, number in numbers.items():
        letter = max(h for h in rules.heard if all(
            after in numbers and p - q * a + numbers[after] <= number for _, a, after in table[scene][h]))
        cells.append((*scene, number + shift, letter))
    return tuple(sorted(cells))


def forced_ranks(rules, reach, most):
    """For each (scene, wanted) that the speaker can force, wanted up to most, a rank and a letter, last letters first."""
    table = steps(rules, reach)
    ranks = {}
    rank = 0
    while True:
        fresh = {}
        for scene in table:
            for wanted in range(1, most + 1):
                for letter in reversed(rules.heard):
                    if (scene, wanted) not in ranks and all(
                            wanted - a <= 0 or (after, wanted - a) in ranks for _, a, after in table[scene][letter]):
                        fresh.setdefault((scene, wanted), (rank, letter))
        if not fresh:
            return ranks
        ranks.update(fresh)
        rank += 1


def widest_forced(rules, reach, most, shift=0):
    """Forced cells with a cell of each scene and wanted number, up to most, that can have one."""
    return tuple(sorted((*scene, wanted, rank + shift, letter)
                        for (scene, wanted), (rank, letter) in forced_ranks(rules, reach, most).items()))


def number(thing):
    return oracle.integer(thing) and thing >= 0


def one_letter(rules, thing):
    return type(thing) is str and len(thing) == 1 and thing in rules.heard


def cells_of(rules, reach, thing, many):
    """Whether a value is a tuple of tuples of so many items that begin with a scene and a number."""
    return type(thing) is tuple and all(
        type(cell) is tuple and len(cell) == many and is_scene(rules, reach, cell[:3]) and number(cell[3]) for cell in thing)


def calm_holds(rules, reach, fraction, thing):
    if not cells_of(rules, reach, thing, 5):
        return False
    for cell in thing:
        if type(cell[4]) is not tuple or len(cell[4]) != len(rules.heard):
            return False
        for letter, answer in zip(rules.heard, cell[4]):
            if type(answer) is not str or answer not in answers(rules, cell[:3], letter):
                return False
    if not oracle.sorted_table(thing, 3):
        return False
    numbers = {cell[:3]: cell[3] for cell in thing}
    p, q = fraction
    for cell in thing:
        for letter, answer in zip(rules.heard, cell[4]):
            after = behind(rules, reach, cell[:3], letter, answer)
            if after not in numbers or q * cost(cell[2], answer) - p + numbers[after] > cell[3]:
                return False
    return FIRST in numbers


def restless_holds(rules, reach, fraction, thing):
    if not cells_of(rules, reach, thing, 5) or not all(one_letter(rules, cell[4]) for cell in thing):
        return False
    if not oracle.sorted_table(thing, 3):
        return False
    numbers = {cell[:3]: cell[3] for cell in thing}
    p, q = fraction
    for cell in thing:
        for answer in answers(rules, cell[:3], cell[4]):
            after = behind(rules, reach, cell[:3], cell[4], answer)
            if after not in numbers or p - q * cost(cell[2], answer) + numbers[after] > cell[3]:
                return False
    return FIRST in numbers


def forced_holds(rules, reach, wanted, thing):
    if not cells_of(rules, reach, thing, 6):
        return False
    if not all(cell[3] > 0 and number(cell[4]) and one_letter(rules, cell[5]) for cell in thing):
        return False
    if not oracle.sorted_table(thing, 4):
        return False
    ranks = {cell[:4]: cell[4] for cell in thing}
    for cell in thing:
        for answer in answers(rules, cell[:3], cell[5]):
            left = cell[3] - cost(cell[2], answer)
            after = behind(rules, reach, cell[:3], cell[5], answer)
            if left > 0 and ranks.get((*after, left), cell[4]) >= cell[4]:
                return False
    return (*FIRST, wanted) in ranks
