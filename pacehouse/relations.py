"""Where texts of heard letters lead, as relations of states.

A relation is a tuple that has for each state the ascending tuple of the states to which it leads from there.
"""


def letter_relations(rules):
    """For each heard letter its relation, in the order of the letters."""
    return {letter: letter_relation(rules, letter) for letter in rules.heard}


def letter_relation(rules, letter):
    """Where a heard letter leads, with any sign below it."""
    return tuple([tuple(sorted({after for h, _, after in row if h == letter})) for row in rules.rows])


def still(rules):
    """The relation of the empty text: each state leads to itself."""
    return tuple([(state,) for state in range(len(rules))])


def followed(states, relation):
    """The ascending tuple of the states to which a relation leads from some states."""
    return tuple(sorted({after for state in states for after in relation[state]}))


def composed(one, other):
    """The relation of what leads as one does, and then as other does."""
    return tuple([followed(states, other) for states in one])


def text_relation(rules, text):
    """Where a text of heard letters leads."""
    return extended(rules, still(rules), text)


def extended(rules, relation, text):
    """Where a text leads behind one that leads as a relation does."""
    relations = letter_relations(rules)
    longer = relation
    for letter in text:
        longer = composed(longer, relations[letter])
    return longer


def states_ahead(rules, text):
    """For each place of a text, and its end, the states from which some caption leads the rest of it on."""
    relations = letter_relations(rules)
    ahead = [tuple(range(len(rules)))]
    for letter in reversed(text):
        ahead.append(states_into(relations[letter], ahead[-1]))
    ahead.reverse()
    return ahead


def states_into(relation, states):
    """The ascending tuple of the states that a relation leads to one of some states."""
    wanted = {state: True for state in states}
    return tuple([start for start, led in enumerate(relation) if any([after in wanted for after in led])])
