"""A slow look at findings, and a row of findings that hold, straight from the document's words."""

import math

from pacehouse.classes import first_pumps
from pacehouse.enough import judge_enough
from pacehouse.errors import BadText
from pacehouse.exact import judge_size
from pacehouse.exchanges import judge_need
from pacehouse.lateplans import can_be_late, judge_lag
from pacehouse.means import calm_cells, least_mean, restless_cells
from pacehouse.never import judge_never
from pacehouse.pairs import compared
from pacehouse.plain import judge_plain
from pacehouse.relays import judge_relay
from pacehouse.rules import Rules
from pacehouse.totals import forced_cells, least_total
from tests import oracle, oracle_calm, oracle_mending, oracle_plain, oracle_relay, oracle_windows

LENGTHS = {
    "right": 4, "mute": 3, "same": 4, "apart": 5, "plan": 4, "baffle": 4, "ever": 3, "never": 4, "calm": 5, "restless": 5, "forced": 5,
    "tells": 4, "wrong": 5, "need": 6, "enough": 5, "needs": 6, "ring": 6, "within": 4, "relay": 6}
ANY_RULES = ("right", "mute", "same", "apart", "tells", "wrong")
LETTERS = "abcdefghijklmnopqrstuvwxyz"


def read(text):
    """The rules that a value tells, or None."""
    try:
        return Rules.read(text)
    except BadText:
        return None


def number_from(thing, least):
    return oracle.integer(thing) and thing >= least


def is_fraction(thing):
    return (type(thing) is tuple and len(thing) == 2 and number_from(thing[0], 0) and number_from(thing[1], 1)
            and math.gcd(*thing) == 1)


def finding_holds(thing):
    if type(thing) is not tuple or not thing or type(thing[0]) is not str or len(thing) != LENGTHS.get(thing[0]):
        return False
    kind, rules = thing[0], read(thing[1])
    if rules is None or (kind not in ANY_RULES and oracle.first_mute(rules) is not None):
        return False
    if kind == "right":
        return all(type(text) is str for text in thing[2:]) and oracle.led(rules, 0, *thing[2:]) is not None
    if kind == "mute":
        return type(thing[2]) is str and oracle.first_mute(rules) == thing[2]
    if kind in ("plan", "baffle"):
        return number_from(thing[2], 0) and oracle.lag_holds(rules, thing[2], (kind, thing[3]))
    if kind in ("ever", "never"):
        return oracle.never_holds(rules, (kind, *thing[2:]))
    if kind in ("calm", "restless", "forced"):
        return calm_holds(rules, *thing)
    if kind in ("tells", "wrong"):
        return number_from(thing[2], 1) and oracle_windows.size_holds(rules, thing[2], (kind, *thing[3:]))
    if kind == "need":
        if not oracle.text_of(rules.heard, thing[2]) or not oracle.text_of(LETTERS, thing[3]) or len(thing[2]) != len(thing[3]):
            return False
        return oracle_mending.need_holds(rules, thing[2], thing[3], (kind, *thing[4:]))
    if kind in ("ring", "within"):
        return oracle_plain.plain_holds(rules, (kind, *thing[2:]))
    return of_two_holds(rules, read(thing[2]), thing)


def calm_holds(rules, kind, text, reach, told, cells):
    if not number_from(reach, 0) or not (number_from(told, 1) if kind == "forced" else is_fraction(told)):
        return False
    return getattr(oracle_calm, f"{kind}_holds")(rules, reach, told, cells)


def of_two_holds(rules, other, thing):
    """Findings about two rules."""
    kind = thing[0]
    if other is None:
        return False
    if kind in ("same", "apart"):
        same = (rules.heard, rules.written) == (other.heard, other.written)
        return same and oracle.compared_holds(rules, other, (kind, *thing[3:]))
    if kind in ("enough", "needs"):
        return (rules.heard == other.heard and number_from(thing[3], 0)
                and oracle_mending.enough_holds(rules, other, thing[3], (kind, *thing[4:])))
    if oracle.first_mute(other) is not None or not oracle_relay.joined(rules, other):
        return False
    return (number_from(thing[3], 0) and number_from(thing[4], thing[3])
            and oracle_relay.relay_holds(rules, other, thing[3:5], ("plan", thing[5])))


def some_findings(rules, other):
    """Findings that hold, of all kinds that there are of two rules with the same letters, full or not."""
    text, more = str(rules), str(other)
    speech = (rules.heard * 4)[:4]
    found = [("right", text, told, caption) for told in oracle.texts(rules.heard, 2) for caption, _ in oracle.ways(rules, 0, told)][:4]
    paper = compared(rules, other)
    found.append((paper[0], text, more, *paper[1:]))
    found.append(("same", text, text, compared(rules, rules)[1]))
    for size in (1, 2, 3):
        paper = judge_size(rules, size)
        found.append((paper[0], text, size, *paper[1:]))
    mute = oracle.first_mute(rules)
    if mute is not None:
        return found + [("mute", text, mute)]
    for lag in (0, 1, 2):
        paper = judge_lag(rules, lag)
        found.append((paper[0], text, lag, paper[1]))
    if len(first_pumps(rules)) < 60:
        paper = judge_never(rules)
        found.append((paper[0], text, *paper[1:]))
    caption = (rules.written + "q") * 4
    found.append(("need", text, speech, caption[:4], *judge_need(rules, speech, caption[:4])[1:]))
    for number in (0, 1):
        paper = judge_enough(rules, other, number)
        found.append((paper[0], text, more, number, *paper[1:]))
    paper = judge_plain(rules)
    found.append((paper[0], text, *paper[1:]))
    if can_be_late(rules, 1) and len(rules.heard) < 3 and len(rules.written) < 3:
        found += calm_findings(rules, text)
    if oracle.first_mute(other) is None and oracle_relay.joined(rules, other) and len(rules) < 4 and len(other) < 4:
        for lags in ((0, 0), (0, 1), (1, 2)):
            paper = judge_relay(rules, other, *lags)
            found += [("relay", text, more, *lags, paper[1])] if paper[0] == "plan" else []
    return found


def calm_findings(rules, text):
    mean = least_mean(rules, 1)
    found = [("calm", text, 1, mean, calm_cells(rules, 1, mean)), ("restless", text, 1, mean, restless_cells(rules, 1, mean)),
             ("calm", text, 1, (7, 3), calm_cells(rules, 1, (7, 3))), ("restless", text, 1, (0, 1), restless_cells(rules, 1, (0, 1)))]
    most = least_total(rules, 1)
    if most is None or most > 0:
        found.append(("forced", text, 1, most or 2, forced_cells(rules, 1, most or 2)))
    return found
