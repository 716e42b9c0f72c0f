"""Findings: one of each kind that holds, and ones that do not."""

import functools
import unittest

from pacehouse.console import Console
from pacehouse.findings import finding_holds
from pacehouse.house import House
from pacehouse.pieces import piece_of
from pacehouse.recordings import Recording
from pacehouse.rules import Rules
from pacehouse.studios import Studio
from tests import odd, oracle, oracle_findings, oracle_house, oracle_plain

NEXT, ANY, LATE, ECHO, PROMISE = (str(rules) for rules in (oracle.NEXT, oracle.ANY, oracle.LATE, oracle.ECHO, oracle.PROMISE))
TURNS = str(oracle.TURNS)
# One of each kind, by hand.
GOOD = {
    "right": ("right", NEXT, "aab", "abb"),
    "mute": ("mute", LATE, "b"),
    "same": ("same", ANY, ANY, ((0, 0),)),
    "apart": ("apart", NEXT, ANY, "ab", "aa"),
    "plan": ("plan", NEXT, 1, ((0, "", ""), (0, "a", "ab"), (0, "b", "ab"), (1, "a", "ab"), (2, "b", "ab"))),
    "baffle": ("baffle", NEXT, 0, ((0, "", "a", 1), (1, "", "b", 0), (2, "", "a", 0))),
    "ever": ("ever", ANY, ((0, ((0,),), (0,)),)),
    "never": ("never", str(oracle.FAR), ("x", "x", ""), (
        (0, ((1, 2), (1,), (2,), (3,)), ("x", "x", ""), 1), (1, ((1, 2), (1,), (2,), (3,)), ("bb", "b", ""), 0),
        (2, ((1, 2), (1,), (2,), (3,)), ("aa", "a", ""), 0))),
    "calm": ("calm", TURNS, 1, (1, 2), (
        (0, "", "", 0, ("a", "a")), (0, "a", "a", 1, ("aa", "ba")), (0, "b", "a", 1, ("aa", "ba")), (1, "a", "a", 0, ("aa", "aa")),
        (2, "b", "a", 0, ("aa", "aa")))),
    "restless": ("restless", ANY, 0, (0, 1), ((0, "", "", 0, "a"),)),
    "forced": ("forced", str(oracle.ONCE), 1, 1, ((0, "", "", 1, 1, "a"), (0, "a", "a", 1, 0, "b"), (0, "a", "b", 1, 0, "a"))),
    "tells": ("tells", NEXT, 2, ((1, 2, 0),)),
    "wrong": ("wrong", NEXT, 1, "ab", "aa"),
    "need": ("need", ECHO, "abba", "aaaa", "abba", ((0,), (0,), (1,), (2,), (2,))),
    "enough": ("enough", ANY, ECHO, 0, ((0, (0,)),)),
    "needs": ("needs", ECHO, NEXT, 0, "a", "b"),
    "ring": ("ring", PROMISE, "a", "a", "b", 1),
    "within": ("within", NEXT, 1, (((0, 0),), ((1, 0), (2, 1)))),
    "relay": ("relay", ANY, ANY, 0, 0, ((0, "", 0, "", (("a", "a"), ("b", "a"))),)),
}


@functools.cache
def found():
    """Findings that hold about rules that are drawn."""
    every = oracle_house.full_rules()
    couples = list(zip(every, every[7:])) + [(rules, oracle.NEXT) for rules in oracle_house.NOT_FULL]
    couples += [(oracle.FAR, oracle.FAR), (oracle.PROMISE, oracle.LATE), (oracle.ANY, oracle.LATE), (oracle.NEXT, oracle.ANY),
                (oracle.DEAD, oracle.DEAD), (oracle.SILENT, oracle.SILENT)]
    return [thing for couple in couples for thing in oracle_findings.some_findings(*couple)]


class FindingsTest(unittest.TestCase):
    def check(self, thing, holds):
        self.assertIs(finding_holds(thing), holds, thing)
        self.assertIs(oracle_findings.finding_holds(thing), holds, thing)

    def test_each_kind(self):
        self.assertEqual(set(GOOD), set(oracle_findings.LENGTHS))
        for thing in GOOD.values():
            self.check(thing, True)
            self.assertIs(finding_holds(thing=thing), True)

    def test_of_rules_that_are_drawn(self):
        kinds = {}
        for thing in found():
            self.check(thing, True)
            kinds[thing[0]] = kinds.get(thing[0], 0) + 1
        self.assertEqual(set(kinds), set(GOOD), kinds)
        self.assertTrue(min(kinds.values()) > 2, kinds)

    def test_other_rules(self):
        seen = {True: 0, False: 0}
        texts = [NEXT, ANY, LATE, ECHO, PROMISE, TURNS, str(oracle.FAR), str(oracle.SILENT), str(oracle.ONCE), str(oracle.NEXT.flipped()),
                 str(oracle.NEXT.respelled("ab", "xy"))]
        for thing in GOOD.values():
            for text in texts:
                told = (thing[0], text, *thing[2:])
                self.assertIs(finding_holds(told), oracle_findings.finding_holds(told), told)
                seen[finding_holds(told)] += 1
                if thing[0] in ("same", "apart", "enough", "needs", "relay"):
                    for told in ((*thing[:2], text, *thing[3:]), (thing[0], text, text, *thing[3:])):
                        self.assertIs(finding_holds(told), oracle_findings.finding_holds(told), told)
        self.assertTrue(min(seen.values()) > 15, seen)

    def test_rules_that_are_not_full(self):
        for kind, thing in GOOD.items():
            if kind not in oracle_findings.ANY_RULES:
                self.check((kind, LATE, *thing[2:]), False)
        self.check(("needs", ECHO, LATE, 0, "a", "b"), True)
        self.check(("enough", ANY, LATE, 0, ((0, (0,)), (1, (0,)), (2, (0,)))), True)
        self.check(("relay", ANY, LATE, 0, 0, GOOD["relay"][5]), False)
        self.check(("right", LATE, "ab", "ba"), True)
        self.check(("wrong", LATE, 1, "ab", "ab"), oracle_findings.finding_holds(("wrong", LATE, 1, "ab", "ab")))
        self.check(("mute", NEXT, "b"), False)
        self.check(("mute", NEXT, None), False)
        self.check(("mute", LATE, "bb"), False)
        self.check(("mute", LATE, ""), False)

    def test_texts_that_are_no_rules(self):
        for thing in GOOD.values():
            for text in ("", "rules", NEXT + "\n", " " + NEXT, NEXT.replace("\n", ";"), NEXT.replace("3", "03"), None, 5, oracle.NEXT,
                         (NEXT,), NEXT.split("\n"), True, "rules ab ab 0", "rules ab ab 1000", odd.DEEP):
                self.check((thing[0], text, *thing[2:]), False)
                if thing[0] in ("same", "apart", "enough", "needs", "relay"):
                    self.check((*thing[:2], text, *thing[3:]), False)

    def test_numbers_out_of_their_range(self):
        for kind, place, bad in (("plan", 2, (-1, True, None, "1", 0, 2)), ("baffle", 2, (-1, False, None, "0", 1)), ("calm", 2, (-1, True, None, 0)),
                                 ("restless", 2, (-1, False, None)), ("forced", 2, (-1, True, None, 0)), ("forced", 3, (0, -1, True, None, 2)),
                                 ("tells", 2, (0, -1, True, None, 1)), ("wrong", 2, (0, -1, True, None, 2)), ("enough", 3, (-1, False, None)),
                                 ("needs", 3, (-1, False, None, 1)), ("ring", 5, (0, -1, True, None, 2)), ("within", 2, (-1, True, None, 0)),
                                 ("relay", 3, (-1, False, None, 1)), ("relay", 4, (-1, False, None))):
            for value in bad:
                thing = GOOD[kind]
                self.check((*thing[:place], value, *thing[place + 1:]), False)
        for kind in ("calm", "restless"):
            thing = GOOD[kind]
            for value in ((0, 2), (2, 4), (1, 0), (0, 0), (-1, 2), (1, -2), (True, 2), (1, True), [1, 2], (1,), (1, 2, 1), None, "12", 1, (None, 1)):
                self.check((*thing[:3], value, thing[4]), False)
        self.check((*GOOD["calm"][:3], (2, 3), GOOD["calm"][4]), True)
        self.check(("restless", ANY, 0, (0, 1), ((0, "", "", 3, "b"),)), True)
        # A relay's lags: the first one is at most the other one.
        cells = ((0, "", 0, "", (("", ""), ("", ""))), (0, "a", 0, "", (("a", "a"), ("a", "a"))), (0, "b", 0, "", (("a", "a"), ("a", "a"))))
        self.check(("relay", ANY, ANY, 1, 1, cells), True)
        for lags in ((1, 0), (0, 1), (2, 1), (2, 2), (1, 2)):
            self.check(("relay", ANY, ANY, *lags, cells), False)

    def test_papers_of_other_kinds(self):
        for kind, thing in GOOD.items():
            for other, length in oracle_findings.LENGTHS.items():
                told = (other, *thing[1:])
                self.assertIs(finding_holds(told), oracle_findings.finding_holds(told), told)
                self.assertIs(finding_holds(told), kind == other, told)
            self.check(thing[:-1], False)
            self.check(thing + (0,), False)
            self.check(list(thing), False)
            self.check((thing,), False)
            self.check(thing[1:], False)
            self.check((kind.upper(), *thing[1:]), False)

    def test_speeches_and_captions(self):
        for thing in (("right", NEXT, "aab", "aab"), ("right", NEXT, "aab", "ab"), ("right", NEXT, None, None), ("right", NEXT, ("a",), ("a",)),
                      ("right", NEXT, "c", "a"), ("need", ECHO, "abba", "aaa", "abba", GOOD["need"][5]), ("need", ECHO, "abca", "aaaa", "abba", ()),
                      ("need", ECHO, "abba", "aaaA", "abba", GOOD["need"][5]), ("need", ECHO, None, "aaaa", "abba", GOOD["need"][5]),
                      ("need", ECHO, tuple("abba"), "aaaa", "abba", GOOD["need"][5]), ("need", ECHO, "abba", tuple("aaaa"), "abba", GOOD["need"][5]),
                      ("apart", NEXT, ANY, "ab", "ba"), ("apart", NEXT, ANY, "abc", "aaa"), ("wrong", NEXT, 1, "ab", "ba"),
                      ("needs", ECHO, NEXT, 0, "a", "a"), ("needs", ECHO, NEXT, 0, "ab", "aa"), ("needs", ECHO, NEXT, 0, None, "a")):
            self.check(thing, False)
        self.check(("need", ECHO, "abba", "azza", "abba", GOOD["need"][5]), True)
        self.check(("right", NEXT, "", ""), True)

    def test_one_thing_otherwise(self):
        seen = {True: 0, False: 0}
        for at, thing in enumerate(list(GOOD.values()) * 6 + found()[::2]):
            for other in odd.variants(thing, at, 12):
                if too_big(other):
                    continue
                told = oracle_findings.finding_holds(other)
                seen[told] += 1
                self.assertIs(finding_holds(other), told, other)
        self.assertTrue(min(seen.values()) > 100, seen)

    def test_values_of_all_kinds(self):
        studio = Studio(oracle.NEXT, 1)
        things = (piece_of(oracle.NEXT, "a", "a"), Recording(oracle.NEXT, "a", "a"), House(), Console(), studio)
        for thing in odd.VALUES + things + tuple((kind,) for kind in GOOD) + tuple((kind, NEXT) for kind in GOOD):
            self.check(thing, False)
        for kind, length in oracle_findings.LENGTHS.items():
            for value in odd.VALUES + things:
                told = (kind, NEXT, *[value] * (length - 2))
                self.assertIs(finding_holds(told), oracle_findings.finding_holds(told), told)
                self.assertTrue(kind == "right" or not finding_holds(told), told)
                self.check((kind, *[value] * (length - 1)), False)
                told = (value, *GOOD[kind][1:])
                self.assertIs(finding_holds(told), oracle_findings.finding_holds(told), told)
                for place in range(1, length):
                    told = (*GOOD[kind][:place], value, *GOOD[kind][place + 1:])
                    self.assertIs(finding_holds(told), oracle_findings.finding_holds(told), told)

    def test_returned_rules(self):
        for one, other in ((oracle.NEXT, oracle.FIRST), (oracle.TURNS, oracle.ECHO), (oracle.NEXT, oracle.PROMISE)):
            for rules in (one | other, one & other, one.flipped()):
                for thing in oracle_findings.some_findings(rules, rules):
                    self.assertIs(finding_holds(thing), True)


def too_big(thing):
    """Whether a finding is about rules beyond the limits: nothing is promised of these."""
    if type(thing) is not tuple:
        return False
    every = [oracle_findings.read(text) for text in thing[1:3] if type(text) is str and text.startswith("rules")]
    return any(rules is not None and len(rules) > 8 for rules in every)


if __name__ == "__main__":
    unittest.main()
