"""How many signs the plain captioner takes back in the long run."""

from pacehouse.cappedlists import met_lists
from pacehouse.captioning import check_full
from pacehouse.meangame import worst_mean
from pacehouse.orders import most_taken


def plain_mean(rules):
    """The plain mean, a fraction, or None if there is a ring."""
    check_full(rules)
    ring, number = most_taken(rules)
    if ring is not None:
        return None
    steps = met_lists(rules, number)
    places = {told: place for place, told in enumerate(steps)}
    # To each letter there is one way on: nobody chooses but the speaker.
    costs = [[[(back, places[after])] for back, after in steps[told]] for told in steps]
    return worst_mean(costs, [[0 for _ in letters] for letters in costs])
