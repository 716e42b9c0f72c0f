"""The document's examples."""

import unittest

from pacehouse.captioning import captions, mute
from pacehouse.classes import class_of
from pacehouse.lateplans import judge_lag, lag_holds, least_lag, written_by
from pacehouse.never import judge_never, never_holds, some_lag
from pacehouse.pairs import parting
from pacehouse.rules import Rules
from tests import oracle

NEXT = Rules("ab", "ab", (
    (("a", "a", 1), ("a", "b", 2), ("b", "a", 1), ("b", "b", 2)),
    (("a", "a", 1), ("a", "b", 2)),
    (("b", "a", 1), ("b", "b", 2)),
))
ANY = Rules("ab", "ab", ((("a", "a", 0), ("a", "b", 0), ("b", "a", 0), ("b", "b", 0)),))
FAR = Rules("abx", "ab", (
    (("a", "a", 1), ("a", "b", 2), ("b", "a", 1), ("b", "b", 2), ("x", "a", 1), ("x", "b", 2)),
    (("a", "a", 3), ("x", "a", 1)),
    (("b", "a", 3), ("x", "a", 2)),
    (("a", "a", 3), ("b", "a", 3), ("x", "a", 3)),
))


class ExamplesTest(unittest.TestCase):
    def test_right_pairs(self):
        self.assertIs(NEXT.is_right("aab", "abb"), True)
        self.assertIs(NEXT.is_right("aab", "aab"), False)
        self.assertEqual(NEXT.led(0, "aab", "aba"), 1)
        self.assertEqual(captions(NEXT, 0, "ab"), ("ba", "bb"))
        self.assertIsNone(mute(NEXT))
        self.assertEqual(mute(Rules("ab", "x", ((("a", "x", 0),),))), "b")

    def test_text(self):
        rules = Rules("a", "xy", ((("a", "x", 1),), (("a", "y", 0),)))
        self.assertEqual(str(rules), "rules a xy 2\nmove 0 a x 1\nmove 1 a y 0")

    def test_parting(self):
        self.assertEqual(parting(NEXT, ANY), ("ab", "aa"))

    def test_lags_of_next(self):
        self.assertEqual(least_lag(NEXT, 3), 1)
        self.assertEqual(judge_lag(NEXT, 0)[0], "baffle")
        self.assertIs(lag_holds(NEXT, 0, ("baffle", ((0, "", "a", 1), (1, "", "b", 0), (2, "", "a", 0)))), True)
        self.assertEqual(written_by(NEXT, judge_lag(NEXT, 1)[1], "abb"), "bba")
        self.assertEqual(written_by(NEXT, oracle.widest_plan(NEXT, 1)[1], "abb"), "bba")

    def test_far(self):
        told = class_of(FAR, "x")
        self.assertEqual(told, ((1, 2), (1,), (2,), (3,)))
        self.assertIs(some_lag(FAR), False)
        self.assertEqual(judge_never(FAR)[0], "never")
        pump = ("x", "x", "")
        rows = ((0, told, pump, 1), (1, told, ("bb", "b", ""), 0), (2, told, ("aa", "a", ""), 0))
        self.assertIs(never_holds(FAR, ("never", pump, rows)), True)

    def test_other_rules(self):
        self.assertEqual(least_lag(oracle.PROMISE, 2), 0)
        self.assertEqual(mute(oracle.LATE), "b")
        self.assertIsNone(mute(oracle.END))
        self.assertEqual((least_lag(oracle.TURNS, 0), least_lag(oracle.TURNS, 1)), (None, 1))
        self.assertEqual((least_lag(oracle.ONCE, 0), least_lag(oracle.ONCE, 1)), (None, 1))


if __name__ == "__main__":
    unittest.main()
