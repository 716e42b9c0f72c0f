"""Slow looks at promises, and a plain model of a house, straight from the document's words."""

import functools

from pacehouse.lists import plain_back
from pacehouse.rules import Rules
from pacehouse.windows import let_by
from tests import oracle, oracle_mending, oracle_plain, oracle_windows

LETTERS = set("abcdefghijklmnopqrstuvwxyz")
FULL = [rules for rules in oracle.NAMED if oracle.first_mute(rules) is None and len(rules) <= 4 and rules.heard == "ab"]
# The first sign tells whether an even or an odd number of a is heard ahead of the next b: no lag will do.
NEVER = Rules("ab", "ab", (
    oracle.TOLD, (("a", "a", 2), ("b", "a", 3)), (("a", "a", 1),), (("a", "a", 3), ("a", "b", 3), ("b", "a", 3), ("b", "b", 3))))
NOT_FULL = [oracle.LATE, Rules("ab", "ab", ((("a", "a", 0), ("b", "b", 1)), (("a", "b", 0),))), Rules("ab", "ab", ((),))]
PROMISES = tuple(
    [("lag", b) for b in range(3)] + [("window", k) for k in (1, 2, 3)] + [("plain", d) for d in range(3)]
    + [("mends", k, n) for k in (1, 2) for n in range(3)])


@functools.cache
def full_rules():
    """Full rules that hear a and b and write a and b, of up to 4 states."""
    return FULL + [NEVER] + oracle.many_full(600, 40, (("ab", "ab"),), most=3)


def integer_from(thing, least):
    return oracle.integer(thing) and thing >= least


def is_promise(thing):
    if type(thing) is not tuple or not thing or type(thing[0]) is not str:
        return False
    if thing[0] == "mends":
        return len(thing) == 3 and integer_from(thing[1], 1) and integer_from(thing[2], 0)
    return len(thing) == 2 and thing[0] in ("lag", "window", "plain") and integer_from(thing[1], 1 if thing[0] == "window" else 0)


def keeps(rules, promise):
    """Whether full rules keep a promise, by slow looks alone."""
    kind, number = promise[0], promise[1]
    if kind == "lag":
        return (0, "") in oracle.winning(rules, number)
    if kind == "window":
        return oracle_windows.tells(rules, number)
    if kind == "plain":
        return oracle_plain.met_lists(rules, number) is not None
    first = (0, tuple(None if state else 0 for state in range(len(rules))))
    cells = oracle_mending.closure(rules, let_by(rules, number), promise[2], [first])
    return all(set(row) != {None} for _, row in cells)


def breaks(rules, promise, paper):
    """Whether a value is a paper that full rules do not keep a promise: held against its part."""
    if type(paper) is not tuple or not paper:
        return False
    kind, number = promise[0], promise[1]
    if kind == "lag":
        return paper[0] == "baffle" and oracle.lag_holds(rules, number, paper)
    if kind == "window":
        return paper[0] == "wrong" and oracle_windows.size_holds(rules, number, paper)
    if kind == "mends":
        return paper[0] == "needs" and oracle_mending.enough_holds(rules, let_by(rules, number), promise[2], paper)
    if paper[0] == "ring":
        return len(paper) == 5 and oracle_plain.ring_holds(rules, paper)
    # There is no ring if some number is kept.
    return (paper[0] == "back" and len(paper) == 2 and plain_back(rules, paper[1])[-1] > number
            and any(oracle_plain.met_lists(rules, most) is not None for most in range(number, 12)))


def is_name(thing):
    return type(thing) is str and 1 <= len(thing) <= 8 and set(thing) <= LETTERS


class Model:
    """A house as the document tells of it: what it should hold behind each call that raised nothing."""

    def __init__(self):
        self.kept = {}
        self.past = []
        self.future = []
        self.log = []

    def change(self, kept):
        self.past.append(dict(self.kept))
        self.future = []
        self.kept = kept

    def found(self, name, rules, promises=()):
        self.change({**self.kept, name: ((rules,), promises)})

    def add_promise(self, name, promise):
        editions, promises = self.kept[name]
        self.change({**self.kept, name: (editions, promises + (promise,))})

    def bring(self, name, rules):
        editions, promises = self.kept[name]
        self.change({**self.kept, name: (editions + (rules,), promises)})

    def drop(self, name):
        self.change({known: entry for known, entry in self.kept.items() if known != name})

    def undo(self):
        self.future.append(self.kept)
        self.kept = self.past.pop()

    def redo(self):
        self.past.append(self.kept)
        self.kept = self.future.pop()

    def stands(self, place):
        name, speech, caption = self.log[place]
        return name in self.kept and oracle.led(self.kept[name][0][-1], 0, speech, caption) is not None

    def told(self):
        """All that a house tells of itself."""
        return {"names": tuple(sorted(self.kept)), "entries": {name: self.kept[name] for name in self.kept},
                "log": tuple(self.log), "stands": [self.stands(place) for place in range(len(self.log))]}


def told(house):
    """All that a house tells of itself, as the model does."""
    return {"names": house.names, "entries": {name: (house.editions(name), house.promises(name)) for name in house.names},
            "log": house.log, "stands": [house.stands(place) for place in range(len(house.log))]}
