"""How many signs must be taken back in all: least totals, forced cells."""

from pacehouse.captioning import check_full
from pacehouse.lategame import forced_from, lost_stands
from pacehouse.lateplans import check_in_time
from pacehouse.scenes import FIRST_SCENE, are_scene, met_ways, ways_on
from pacehouse.values import is_ascending, is_from_one, is_letter, is_number, is_tuple_of

KEPT = "kept"
SPENT = "spent"


def least_total(rules, reach):
    """The least total, or None."""
    check_in_time(rules, reach)
    ways = met_ways(rules, reach)
    layers = []
    # No cost is above the reach: when so many layers have not grown, none grows any more.
    sizes = [0] * reach
    while True:
        layers.append(scenes_within(ways, layers))
        if FIRST_SCENE in layers[-1]:
            return len(layers) - 1
        sizes.append(len(layers[-1]))
        if min(sizes[-1 - reach:]) == sizes[-1]:
            return None


def scenes_within(ways, layers):
    """The scenes from which a writer has a total of at most the number of layers, which are those of lesser totals."""
    options = {KEPT: {}, SPENT: None}
    for scene, letters in ways.items():
        options[scene] = {letter: [kept_scene(layers, cost, behind) for _, cost, behind in told]
                          for letter, told in letters.items()}
    lost = lost_stands(options)
    return {scene: True for scene in ways if scene not in lost}


def kept_scene(layers, cost, behind):
    """The scene behind an answer that costs nothing; of others KEPT if what they cost can be borne, SPENT if not."""
    if cost == 0:
        return behind
    if cost <= len(layers) and behind in layers[-cost]:
        return KEPT
    return SPENT


def forced_cells(rules, reach, number):
    """Forced cells for a number, or None if there are none."""
    check_in_time(rules, reach)
    start = (FIRST_SCENE, number)
    options = wanted_options(met_ways(rules, reach), start)
    lost = lost_stands(options)
    if start not in lost:
        return None
    cells = []
    for scene, wanted in forced_from(options, lost, start):
        letter, rank = lost[(scene, wanted)]
        cells.append((*scene, wanted, rank, letter))
    return tuple(sorted(cells))


def wanted_options(ways, start):
    """For each scene, with the number of signs that are wanted there, what can come behind each heard letter.

    None where no more signs are wanted: there the speaker has won.
    """
    options = {}
    order = [start]
    while len(order) > 0:
        place = order.pop()
        if place not in options:
            scene, wanted = place
            options[place] = None
            if wanted > 0:
                options[place] = {letter: [(behind, wanted - cost) for _, cost, behind in told]
                                  for letter, told in ways[scene].items()}
                order.extend([after for afters in options[place].values() for after in afters])
    return options


def forced_holds(rules, reach, number, thing):
    """Whether any value is forced cells for a number."""
    check_full(rules)
    if not isinstance(thing, tuple):
        return False
    ranks = {}
    for cell in thing:
        if not is_forced_shaped(rules, reach, cell) or cell[:4] in ranks:
            return False
        ranks[cell[:4]] = cell[4]
    if (*FIRST_SCENE, number) not in ranks or not is_ascending(thing):
        return False
    for cell in thing:
        if not is_forced(rules, reach, ranks, cell):
            return False
    return True


def is_forced_shaped(rules, reach, thing):
    """Whether any value has the form of a forced cell."""
    if not is_tuple_of(thing, 6) or not are_scene(rules, reach, thing[:3]):
        return False
    return is_from_one(thing[3]) and is_number(thing[4]) and is_letter(thing[5], rules.heard)


def is_forced(rules, reach, ranks, cell):
    """Whether each answer to the letter of a cell costs all that is wanted, or leads to a cell of a lesser rank."""
    for _, cost, behind in ways_on(rules, reach, cell[:3], cell[5]):
        after = (*behind, cell[3] - cost)
        if cell[3] > cost and not (after in ranks and ranks[after] < cell[4]):
            return False
    return True
