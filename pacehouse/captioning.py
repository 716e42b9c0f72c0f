"""The captions of a speech, and whether each speech has one."""

from pacehouse.errors import Mute
from pacehouse.relations import followed, letter_relations, states_ahead


def reached(rules, state, speech):
    """The ascending tuple of the states to which some caption leads a speech on from a state."""
    relations = letter_relations(rules)
    states = (state,)
    for letter in speech:
        states = followed(states, relations[letter])
    return states


def first_caption(rules, state, speech):
    """The first caption that leads a speech on from a state, or None."""
    ahead = states_ahead(rules, speech)
    if state not in ahead[0]:
        return None
    here = state
    caption = ""
    for place, letter in enumerate(speech):
        sign, here = first_step(rules.rows[here], letter, ahead[place + 1])
        caption = caption + sign
    return caption


def first_step(row, letter, wanted):
    """The sign and the state of the first move of a row by a letter to one of the wanted states."""
    for h, c, after in row:
        if h == letter and after in wanted:
            return c, after
    return "", None


def captions(rules, state, speech):
    """The ascending tuple of all captions that lead a speech on from a state."""
    # Rows are sorted, so what is put behind sorted texts of one length stays sorted.
    ways = [("", state)]
    for letter in speech:
        ways = [(text + c, after) for text, here in ways for h, c, after in rules.rows[here] if h == letter]
    return tuple([text for text, _ in ways])


def number_of_captions(rules, state, speech):
    """How many captions lead a speech on from a state."""
    counts = {state: 1}
    for letter in speech:
        more = {}
        for here, many in counts.items():
            for h, _, after in rules.rows[here]:
                if h == letter:
                    more[after] = more.get(after, 0) + many
        counts = more
    return sum(list(counts.values()))


def mute(rules):
    """The first speech that has no right caption, or None if each one has."""
    # Sets of states are met by their first speeches, in order: so the first speech that leads nowhere is met first.
    relations = letter_relations(rules)
    speeches = {(0,): ""}
    order = [(0,)]
    at = 0
    while at < len(order):
        states = order[at]
        at += 1
        for letter in rules.heard:
            after = followed(states, relations[letter])
            if after == ():
                return speeches[states] + letter
            if after not in speeches:
                speeches[after] = speeches[states] + letter
                order.append(after)
    return None


def is_full(rules):
    """Whether each speech has a right caption."""
    return mute(rules) is None


def check_full(rules):
    """Raises Mute with the first speech that has no right caption, if there is one."""
    speech = mute(rules)
    if speech is not None:
        raise Mute(speech)
