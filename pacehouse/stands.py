"""Stands: a state, and the heard letters that wait for their signs."""

from pacehouse.captioning import check_full, reached
from pacehouse.relations import letter_relations, states_into
from pacehouse.values import is_index, is_text


def is_open(rules, state, waiting):
    """Whether some caption leads the waiting letters on from the state."""
    check_full(rules)
    return goes_on(rules, state, waiting)


def goes_on(rules, state, waiting):
    """Whether a stand of any rules, full or not, is open."""
    return reached(rules, state, waiting) != ()


def are_stand(rules, lag, state, waiting):
    """Whether two values are a state and a text of at most so many heard letters."""
    return is_index(state, len(rules)) and is_text(waiting, rules.heard) and len(waiting) <= lag


def open_states(rules, longest):
    """For each text of at most so many heard letters the states that are open with it."""
    relations = letter_relations(rules)
    table = {"": tuple(range(len(rules)))}
    texts = [""]
    for _ in range(longest):
        longer = []
        for letter in rules.heard:
            for text in texts:
                table[letter + text] = states_into(relations[letter], table[text])
                longer.append(letter + text)
        texts = longer
    return table


def stands_behind(relations, lag, stand, letter):
    """The stands that can come when a letter is heard, whatever sign is written then."""
    state, waiting = stand
    if len(waiting) < lag:
        return [(state, waiting + letter)]
    waits = waiting + letter
    return [(after, waits[1:]) for after in relations[waits[0]][state]]
