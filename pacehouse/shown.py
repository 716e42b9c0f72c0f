"""What is shown while speech comes: scenes, answers, and what they take back."""

from pacehouse.captioning import check_full
from pacehouse.scenes import answers_to, are_scene, next_scene, signs_back


def is_scene(rules, reach, thing):
    """Whether any value is a scene of a reach."""
    check_full(rules)
    return are_scene(rules, reach, thing)


def answers(rules, scene, letter):
    """The ascending tuple of the answers in a scene to a heard letter."""
    check_full(rules)
    return answers_to(rules, scene, letter)


def cost_of(scene, answer):
    """How many signs an answer in a scene takes back."""
    return signs_back(scene[2], answer)


def scene_behind(rules, reach, scene, letter, answer):
    """The scene behind an answer to a heard letter."""
    check_full(rules)
    return next_scene(rules, reach, scene, letter, answer)


def taken_back(captions):
    """How many signs are taken back along captions that are shown one behind the other."""
    return sum([signs_back(captions[place - 1], captions[place]) for place in range(1, len(captions))])
