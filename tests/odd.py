"""Values of all kinds, and papers with one thing or more put otherwise."""

import random

from pacehouse.console import Console
from pacehouse.house import House
from pacehouse.pieces import piece_of
from pacehouse.recordings import Recording
from pacehouse.rules import Rules
from pacehouse.studios import Studio

SAYING = Rules("a", "x", ((("a", "x", 0),),))
OBJECTS = (piece_of(SAYING, "a", "x"), Recording(SAYING, "a", "x"), Studio(SAYING, 0), House(), Console())
DEEP = ()
for _ in range(18):
    DEEP = (DEEP, [DEEP] if _ < 5 else 1)

VALUES = (
    None, True, False, 0, 1, -1, 10 ** 39, "", "a", "plan", "ab\nab", "\n", "~ ", (), (()), ((),), [], [()], {}, {"a": 1},
    {"plan": ()}, ("plan",), ("plan", ()), ("plan", None), ("plan", []), ("plan", (), ()), ["plan", ()], ("baffle", ()),
    ("baffle", ((),)), ("plan", (None,)), ("same", ()), ("same", None), ("same", ((0, 0), None)), ("apart", "a"),
    ("apart", None, "a"), ("apart", "a", []), ("apart", 1, 2), ("never", (), ()), ("never", None, None), ("ever", None),
    ("ever", ()), ("ever", [()]), ("ever", ((0, (), ()),)), ("never", ("a", "a", ""), ()), ("", "a", ""), ("", "", ""),
    ("a", "a", "a", "a"), ("a", "a"), "aaa", ["", "a", ""], ({}, {}, {}), (0, 0, 0), (True, True), DEEP, [DEEP],
    Rules("a", "x", ((),)), (Rules("a", "x", ((),)),), ("plan", Rules("a", "x", ((),))), (Rules("a", "x", ((),)), ()),
    *OBJECTS, OBJECTS, ("plan", OBJECTS), (OBJECTS[0], ()), [OBJECTS[1]], {"a": OBJECTS[3]},
)


def changed(thing, rng):
    """A value with one thing otherwise, at any depth."""
    if isinstance(thing, (tuple, list)) and thing and rng.random() < 0.8:
        at = rng.randrange(len(thing))
        return (*thing[:at], changed(thing[at], rng), *thing[at + 1:])
    if isinstance(thing, tuple):
        return changed_tuple(thing, rng)
    if isinstance(thing, str):
        return changed_text(thing, rng)
    if isinstance(thing, int):
        return rng.choice((thing + 1, thing - 1, -1, bool(thing), None, str(thing), (thing,), thing + 10 ** 30, 0))
    return rng.choice(VALUES)


def changed_tuple(thing, rng):
    one, two = (rng.randrange(len(thing)) for _ in range(2)) if thing else (0, 0)
    swapped = list(thing)
    if thing:
        swapped[one], swapped[two] = swapped[two], swapped[one]
    return rng.choice((
        list(thing), thing[:one] + thing[one + 1:], thing[:one] + thing[one:one + 1] + thing[one:], tuple(swapped),
        thing[::-1], thing + (rng.choice(VALUES),), (), (thing,), thing[:one] + (rng.choice(VALUES),) + thing[one + 1:]))


def changed_text(thing, rng):
    at = rng.randrange(len(thing) + 1)
    letter = rng.choice("abcxyzABC 0~\n")
    return rng.choice((
        thing[:at] + letter + thing[at:], thing[:at] + letter + thing[at + 1:], thing[:at] + thing[at + 1:], "", None,
        tuple(thing), list(thing), thing.upper(), thing + thing, rng.choice(VALUES)))


def variants(thing, seed, count):
    """A row of values that are a paper with one to three things otherwise."""
    rng = random.Random(seed)
    for _ in range(count):
        other = thing
        for _ in range(rng.choice((1, 1, 1, 2, 3))):
            other = changed(other, rng)
        yield other


def same_kind(one, other):
    """Whether two values are equal, and of the same kinds throughout."""
    if type(one) is not type(other) or one != other:
        return False
    if isinstance(one, (tuple, list)):
        return all(same_kind(x, y) for x, y in zip(one, other))
    return True
