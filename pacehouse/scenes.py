"""Scenes: the signs that can still be put otherwise, and the state to which those ahead of them led."""

from pacehouse.captioning import captions
from pacehouse.rules import state_behind
from pacehouse.values import is_index, is_text, is_tuple_of

FIRST_SCENE = (0, "", "")


def are_scene(rules, reach, thing):
    """Whether any value is a scene of rules that are full."""
    if not is_tuple_of(thing, 3) or not is_index(thing[0], len(rules)):
        return False
    if not is_text(thing[1], rules.heard) or not is_text(thing[2], rules.written) or len(thing[1]) > reach:
        return False
    return rules.led(thing[0], thing[1], thing[2]) is not None


def answers_to(rules, scene, letter):
    """The ascending tuple of the answers in a scene to a heard letter."""
    state, tail, _ = scene
    return captions(rules, state, tail + letter)


def is_answer(rules, scene, letter, thing):
    """Whether any value is an answer in a scene to a heard letter."""
    state, tail, _ = scene
    if not is_text(thing, rules.written):
        return False
    return rules.led(state, tail + letter, thing) is not None


def signs_back(shown, answer):
    """How many signs of what is shown stand behind those with which it and an answer begin alike."""
    alike = 0
    while alike < len(shown) and alike < len(answer) and shown[alike] == answer[alike]:
        alike += 1
    return len(shown) - alike


def next_scene(rules, reach, scene, letter, answer):
    """The scene behind an answer to a heard letter."""
    state, tail, _ = scene
    heard = tail + letter
    if len(answer) <= reach:
        return (state, heard, answer)
    return (state_behind(rules.rows[state], heard[0], answer[0]), heard[1:], answer[1:])


def ways_on(rules, reach, scene, letter):
    """For each answer in a scene to a heard letter a triple of the answer, its cost, and the scene behind it."""
    return [(answer, signs_back(scene[2], answer), next_scene(rules, reach, scene, letter, answer))
            for answer in answers_to(rules, scene, letter)]


def met_ways(rules, reach):
    """For each scene to which a writer can come, the first one first, the ways on from it for each heard letter."""
    ways = {}
    order = [FIRST_SCENE]
    while len(order) > 0:
        scene = order.pop()
        if scene not in ways:
            ways[scene] = {letter: ways_on(rules, reach, scene, letter) for letter in rules.heard}
            order.extend([behind for told in ways[scene].values() for _, _, behind in told])
    return ways


def scenes_behind(ways):
    """For each scene and heard letter just the scenes that can come then."""
    return {scene: {letter: [behind for _, _, behind in told] for letter, told in letters.items()}
            for scene, letters in ways.items()}
