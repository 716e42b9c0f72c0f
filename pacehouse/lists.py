"""Plain captions, what they take back, and the lists that tell it."""

from pacehouse.captioning import check_full, first_caption

FIRST_LIST = ((0, 0),)


def plain_caption(rules, speech):
    """The first right caption of a speech."""
    check_full(rules)
    return first_caption(rules, 0, speech)


def list_of(rules, speech):
    """The list of a speech."""
    check_full(rules)
    told = FIRST_LIST
    for letter in speech:
        told = list_behind(rules, told, letter)
    return told


def plain_back(rules, speech):
    """The numbers of signs that the letters of a speech take back, in order."""
    check_full(rules)
    told = FIRST_LIST
    numbers = []
    for letter in speech:
        numbers.append(back_by(rules, told, letter))
        told = list_behind(rules, told, letter)
    return tuple(numbers)


def led_from(rules, states, letter):
    """For each state to which a letter leads on from the states of a list, in their order, the place it comes from."""
    places = {}
    for place, state in enumerate(states):
        for h, _, after in rules.rows[state]:
            if h == letter and after not in places:
                places[after] = place
    return places


def list_behind(rules, told, letter):
    """The list behind a letter."""
    pairs = []
    ahead = None
    for state, place in led_from(rules, states_of(told), letter).items():
        fork = 0 if ahead is None else 1 + greatest_fork(told[ahead + 1:place + 1])
        pairs.append((state, fork))
        ahead = place
    return tuple(pairs)


def back_by(rules, told, letter):
    """How many signs a letter takes back behind a list."""
    places = list(led_from(rules, states_of(told), letter).values())
    return greatest_fork(told[:places[0] + 1])


def states_of(told):
    """The states of a list, in their order."""
    return [state for state, _ in told]


def greatest_fork(told):
    """The greatest fork of some pairs, 0 if there are none."""
    return max([fork for _, fork in told], default=0)
