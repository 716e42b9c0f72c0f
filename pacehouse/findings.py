"""Findings: what is said of rules, told by their texts, with a paper."""

from math import gcd

from pacehouse.captioning import mute
from pacehouse.enough import enough_holds
from pacehouse.errors import BadText, Mute, OtherLetters, Unjoined
from pacehouse.exact import size_holds
from pacehouse.exchanges import need_holds
from pacehouse.lateplans import lag_holds
from pacehouse.means import calm_holds, restless_holds
from pacehouse.never import never_holds
from pacehouse.pairs import compared_holds
from pacehouse.plain import plain_holds
from pacehouse.relays import relay_holds
from pacehouse.rules import Rules
from pacehouse.totals import forced_holds
from pacehouse.values import ALPHABET, is_from_one, is_number, is_text, is_tuple_of


def is_fraction(thing):
    """Whether any value is a fraction."""
    if not is_tuple_of(thing, 2) or not is_number(thing[0]) or not is_from_one(thing[1]):
        return False
    return gcd(thing[0], thing[1]) == 1


def is_right_pair(rules, told):
    """("right", R, speech, caption)"""
    return rules.is_right(told[2], told[3])


def is_mute_speech(rules, told):
    """("mute", R, speech)"""
    return isinstance(told[2], str) and mute(rules) == told[2]


def is_comparison(rules, told):
    """("same", R, S, pairs), ("apart", R, S, speech, caption)"""
    return compared_holds(rules, Rules.read(told[2]), (told[0], *told[3:]))


def is_lag_paper(rules, told):
    """("plan", R, lag, cells), ("baffle", R, lag, rows)"""
    return is_number(told[2]) and lag_holds(rules, told[2], (told[0], told[3]))


def is_never_paper(rules, told):
    """("ever", R, cells), ("never", R, pump, rows)"""
    return never_holds(rules, (told[0], *told[2:]))


def is_mean_paper(rules, told):
    """("calm", R, reach, fraction, cells), ("restless", R, reach, fraction, cells)"""
    if not is_number(told[2]) or not is_fraction(told[3]):
        return False
    if told[0] == "calm":
        return calm_holds(rules, told[2], told[3], told[4])
    return restless_holds(rules, told[2], told[3], told[4])


def is_forced_paper(rules, told):
    """("forced", R, reach, number, cells)"""
    return is_number(told[2]) and is_from_one(told[3]) and forced_holds(rules, told[2], told[3], told[4])


def is_size_paper(rules, told):
    """("tells", R, size, ranks), ("wrong", R, size, speech, caption)"""
    return is_from_one(told[2]) and size_holds(rules, told[2], (told[0], *told[3:]))


def is_need_paper(rules, told):
    """("need", R, speech, caption, mended, worths)"""
    if not is_text(told[2], rules.heard) or not is_text(told[3], ALPHABET) or len(told[2]) != len(told[3]):
        return False
    return need_holds(rules, told[2], told[3], (told[0], told[4], told[5]))


def is_enough_paper(rules, told):
    """("enough", R, S, number, cells), ("needs", R, S, number, speech, caption)"""
    other = Rules.read(told[2])
    return is_number(told[3]) and enough_holds(rules, other, told[3], (told[0], *told[4:]))


def is_plain_paper(rules, told):
    """("ring", R, ahead, loop, behind, k), ("within", R, number, lists)"""
    return plain_holds(rules, (told[0], *told[2:]))


def is_relay_paper(rules, told):
    """("relay", R, S, middle_lag, lag, cells)"""
    other = Rules.read(told[2])
    if not is_number(told[3]) or not is_number(told[4]) or told[3] > told[4]:
        return False
    return relay_holds(rules, other, told[3], told[4], ("plan", told[5]))


# For each kind of finding the number of its parts, the word ahead of them counted.
LENGTHS = {
    "right": 4, "mute": 3, "same": 4, "apart": 5, "plan": 4, "baffle": 4, "ever": 3, "never": 4,
    "calm": 5, "restless": 5, "forced": 5, "tells": 4, "wrong": 5, "need": 6, "enough": 5, "needs": 6,
    "ring": 6, "within": 4, "relay": 6,
}
# For each kind of finding what tells whether it holds.
JUDGES = {
    "right": is_right_pair,
    "mute": is_mute_speech,
    "same": is_comparison,
    "apart": is_comparison,
    "plan": is_lag_paper,
    "baffle": is_lag_paper,
    "ever": is_never_paper,
    "never": is_never_paper,
    "calm": is_mean_paper,
    "restless": is_mean_paper,
    "forced": is_forced_paper,
    "tells": is_size_paper,
    "wrong": is_size_paper,
    "need": is_need_paper,
    "enough": is_enough_paper,
    "needs": is_enough_paper,
    "ring": is_plain_paper,
    "within": is_plain_paper,
    "relay": is_relay_paper,
}


def finding_holds(thing):
    """Whether any value is a finding that holds."""
    if not isinstance(thing, tuple) or len(thing) == 0 or not isinstance(thing[0], str):
        return False
    if thing[0] not in LENGTHS or len(thing) != LENGTHS[thing[0]]:
        return False
    judge = JUDGES[thing[0]]
    try:
        return judge(Rules.read(thing[1]), thing)
    except (BadText, Mute, OtherLetters, Unjoined):
        return False
