"""Pieces: pairs that stand anywhere in longer ones, with what they tell of these."""

from pacehouse.errors import BadPair, OtherRules
from pacehouse.needrows import least_worth, need_rows
from pacehouse.values import ALPHABET, is_text


def check_pair(rules, speech, caption):
    """Raises BadPair for values that are not a speech, and a caption of as many letters from a to z."""
    if not is_text(speech, rules.heard):
        raise BadPair("speech")
    if not is_text(caption, ALPHABET) or len(caption) != len(speech):
        raise BadPair("caption")


def piece_of(rules, speech, caption):
    """The piece of a pair."""
    check_pair(rules, speech, caption)
    states = range(len(rules))
    leads = [rules.led(state, speech, caption) for state in states]
    costs = [need_rows(rules, speech, caption, state)[-1] for state in states]
    return Piece(rules, speech, caption, tuple(leads), tuple(costs))


def need_of(piece):
    """The need of a pair with a piece, or None if its speech has no right caption."""
    return least_worth(piece.costs[0])


def is_right_piece(piece):
    """Whether a pair with a piece is right."""
    return piece.leads_to[0] is not None


class Piece:
    """The piece of a pair by rules, made by piece_of and by joining alone."""

    def __init__(self, rules, speech, caption, leads, costs):
        self.rules = rules
        self.speech_there = speech
        self.caption_there = caption
        self._leads = leads
        self._costs = costs

    @property
    def leads_to(self):
        """For each state the state to which the signs lead from there, or None."""
        return self._leads

    @property
    def costs(self):
        """For each state a tuple with, for each state, the least number of exchanges to lead there, or None."""
        return self._costs

    @property
    def led_class(self):
        """The class of the speech: for each state the ascending tuple of the states to which it leads."""
        return tuple([states_with(row) for row in self._costs])

    def __len__(self):
        return len(self.speech_there)

    def __add__(self, other):
        if self.rules != other.rules:
            raise OtherRules()
        return Piece(self.rules, self.speech_there + other.speech_there, self.caption_there + other.caption_there,
                     joined_leads(self.leads_to, other.leads_to), joined_costs(self.costs, other.costs))

    def __eq__(self, other):
        # Where costs are equal, so are classes.
        return (isinstance(other, Piece) and self.rules == other.rules and self.leads_to == other.leads_to
                and self.costs == other.costs)


def states_with(row):
    """The ascending tuple of the states that have a number in a row."""
    return tuple([state for state, cost in enumerate(row) if cost is not None])


def joined_leads(one, other):
    """The map of what leads as one does, and then as other does."""
    return tuple([None if state is None else other[state] for state in one])


def joined_costs(one, other):
    """The costs of what leads as one does, and then as other does."""
    columns = [[row[state] for row in other] for state in range(len(other))]
    return tuple([tuple([least_sum(row, column) for column in columns]) for row in one])


def least_sum(row, column):
    """The least sum of numbers that stand at one place in a row and in a column, or None."""
    sums = [cost + more for cost, more in zip(row, column) if cost is not None and more is not None]
    return min(sums, default=None)
