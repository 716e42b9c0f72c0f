"""How many signs must be taken back in the long run: least means, calm cells, restless cells."""

from pacehouse.captioning import check_full
from pacehouse.lategame import lost_stands
from pacehouse.lateplans import check_in_time
from pacehouse.meangame import is_below, least_mean_of
from pacehouse.scenes import (
    FIRST_SCENE, are_scene, is_answer, met_ways, next_scene, scenes_behind, signs_back, ways_on)
from pacehouse.values import is_ascending, is_letter, is_number, is_tuple_of


def least_mean(rules, reach):
    """The least mean, a fraction."""
    check_in_time(rules, reach)
    mean, _, _ = settled(met_ways(rules, reach))
    return mean


def calm_cells(rules, reach, fraction):
    """Calm cells at a fraction, or None if there are none."""
    check_in_time(rules, reach)
    ways = met_ways(rules, reach)
    mean, taken, _ = settled(ways)
    if is_below(fraction, mean):
        return None
    p, q = fraction
    steps = {scene: [(q * cost - p, behind) for _, cost, behind in told] for scene, told in taken.items()}
    numbers = least_numbers(steps)
    return tuple(sorted([(*scene, numbers[scene], tuple([answer for answer, _, _ in taken[scene]]))
                         for scene in numbers]))


def restless_cells(rules, reach, fraction):
    """Restless cells at a fraction, or None if there are none."""
    check_in_time(rules, reach)
    ways = met_ways(rules, reach)
    mean, _, said = settled(ways)
    if is_below(mean, fraction):
        return None
    p, q = fraction
    steps = {scene: [(p - q * cost, behind) for _, cost, behind in ways[scene][said[scene]]] for scene in said}
    numbers = least_numbers(steps)
    return tuple(sorted([(*scene, numbers[scene], said[scene]) for scene in numbers]))


def settled(ways):
    """The least mean, for each scene the ways that a writer takes to have it, and the letter that a speaker says.

    The writer takes one way for each letter, at scenes to which that writer comes. Where the speaker can force a scene
    without an answer, the speaker does.
    """
    lost = lost_stands(scenes_behind(ways))
    scenes = [scene for scene in ways if scene not in lost]
    places = {scene: place for place, scene in enumerate(scenes)}
    kept = [[[way for way in told if way[2] in places] for told in ways[scene].values()] for scene in scenes]
    costs = [[[(cost, places[behind]) for _, cost, behind in told] for told in letters] for letters in kept]
    mean, taken, said = least_mean_of(costs)
    says = {scene: lost[scene][0] for scene in lost}
    takes = {}
    for scene, letters, numbers, number in zip(scenes, kept, taken, said):
        says[scene] = list(ways[scene])[number]
        takes[scene] = [told[at] for told, at in zip(letters, numbers)]
    return mean, takes, says


def least_numbers(steps):
    """For each scene that is met from the first one the least number that will do.

    steps has for each scene pairs (weight, scene behind): weight, and the number behind, are at most its number.
    """
    numbers = {}
    order = [FIRST_SCENE]
    while len(order) > 0:
        scene = order.pop()
        if scene not in numbers:
            numbers[scene] = 0
            order.extend([behind for _, behind in steps[scene]])
    while True:
        higher = {scene: max([0, *[weight + numbers[behind] for weight, behind in steps[scene]]]) for scene in numbers}
        if higher == numbers:
            return numbers
        numbers = higher


def calm_holds(rules, reach, fraction, thing):
    """Whether any value is calm cells at a fraction."""
    check_full(rules)
    numbers = told_numbers(rules, reach, thing)
    if numbers is None:
        return False
    for cell in thing:
        if not is_calm(rules, reach, fraction, numbers, cell):
            return False
    return is_ascending(thing)


def told_numbers(rules, reach, thing):
    """The numbers of the scenes of any value that has a cell for each of some scenes, the first one too; or None."""
    if not isinstance(thing, tuple):
        return None
    numbers = {}
    for cell in thing:
        if not is_tuple_of(cell, 5) or not are_scene(rules, reach, cell[:3]) or not is_number(cell[3]):
            return None
        if cell[:3] in numbers:
            return None
        numbers[cell[:3]] = cell[3]
    if FIRST_SCENE not in numbers:
        return None
    return numbers


def is_calm(rules, reach, fraction, numbers, cell):
    """Whether a cell with a scene and a number has an answer to each letter, and none that costs too much."""
    scene = cell[:3]
    p, q = fraction
    if not is_tuple_of(cell[4], len(rules.heard)):
        return False
    for letter, answer in zip(rules.heard, cell[4]):
        if not is_answer(rules, scene, letter, answer):
            return False
        behind = next_scene(rules, reach, scene, letter, answer)
        if not is_within(numbers, scene, q * signs_back(scene[2], answer) - p, behind):
            return False
    return True


def is_within(numbers, scene, weight, behind):
    """Whether a weight, and the number of the scene behind, are at most the number of a scene."""
    return behind in numbers and weight + numbers[behind] <= numbers[scene]


def restless_holds(rules, reach, fraction, thing):
    """Whether any value is restless cells at a fraction."""
    check_full(rules)
    numbers = told_numbers(rules, reach, thing)
    if numbers is None:
        return False
    for cell in thing:
        if not is_restless(rules, reach, fraction, numbers, cell):
            return False
    return is_ascending(thing)


def is_restless(rules, reach, fraction, numbers, cell):
    """Whether a cell with a scene and a number has a letter to which no answer costs too little."""
    p, q = fraction
    if not is_letter(cell[4], rules.heard):
        return False
    for _, cost, behind in ways_on(rules, reach, cell[:3], cell[4]):
        if not is_within(numbers, cell[:3], p - q * cost, behind):
            return False
    return True


def shown_along(rules, reach, cells, speech):
    """The captions that are shown to the beginnings of a speech if one answers by calm cells."""
    check_full(rules)
    table = {cell[:3]: cell[4] for cell in cells}
    scene = FIRST_SCENE
    fixed = ""
    told = [""]
    for letter in speech:
        answer = table[scene][rules.heard.index(letter)]
        told.append(fixed + answer)
        scene = next_scene(rules, reach, scene, letter, answer)
        fixed = told[-1][:len(told[-1]) - len(scene[2])]
    return tuple(told)
