"""Classes of texts, long ones and pumps."""

import unittest

from pacehouse.classes import class_of, long_classes, pump_holds
from pacehouse.errors import Mute
from tests import odd, oracle

FULL = [rules for rules in oracle.NAMED if oracle.first_mute(rules) is None]


def samples(seed, count):
    found = [rules for rules in FULL + oracle.many_full(seed, count) if len(oracle.all_classes(rules)) <= 60]
    assert len(found) > count // 2
    return found


class ClassesTest(unittest.TestCase):
    def test_class_text_by_text(self):
        for rules in samples(61, 40):
            for text in oracle.texts(rules.heard, 4):
                told = tuple(tuple(sorted({end for _, end in oracle.ways(rules, state, text)}))
                             for state in range(len(rules.rows)))
                self.assertTrue(odd.same_kind(class_of(rules, text), told))

    def test_long_texts(self):
        self.assertEqual(class_of(oracle.NEXT, "ab" * 30), ((1, 2), (1, 2), ()))
        self.assertEqual(class_of(oracle.FAR, "x" * 60), ((1, 2), (1,), (2,), (3,)))
        self.assertEqual(class_of(oracle.FAR, ""), ((0,), (1,), (2,), (3,)))

    def test_long_classes(self):
        unlike = 0
        for rules in samples(62, 60):
            told = oracle.long_classes(rules)
            unlike += len(told) < len(oracle.all_classes(rules))
            self.assertTrue(odd.same_kind(long_classes(rules), told))
        self.assertTrue(unlike > 20)
        # The empty text's class is long where some letters lead each state to itself.
        self.assertEqual(long_classes(oracle.ANY), (((0,),),))
        self.assertEqual(long_classes(oracle.NEXT), (((1, 2), (), (1, 2)), ((1, 2), (1, 2), ())))

    def test_pumps_of_short_texts(self):
        seen = {True: 0, False: 0}
        for rules in samples(63, 20):
            texts = list(oracle.texts(rules.heard, 2)) + ["q", "aq"]
            for ahead in texts:
                for loop in texts:
                    for behind in ("", "a", rules.heard, "q"):
                        told = oracle.pump_holds(rules, (ahead, loop, behind))
                        seen[told] += 1
                        self.assertIs(pump_holds(rules, (ahead, loop, behind)), told)
        self.assertTrue(min(seen.values()) > 100, seen)

    def test_pumps_otherwise(self):
        self.assertIs(pump_holds(oracle.FIRST, ("", "ab", "b")), False)
        self.assertIs(pump_holds(oracle.FIRST, ("a", "ab", "b")), True)
        pump = ("x", "xx", "")
        self.assertIs(pump_holds(oracle.FAR, pump), True)
        for thing in (list(pump), ("x", "", ""), ("x", "xx"), ("x", "xx", "", ""), ("x", "xx", None), ("x", ("x",), ""),
                      ("x", "xX", ""), ("x", "x ", ""), (["x"], "x", ""), ("x", "x", "c"), ("", "a", ""), "xx", ("x", 1, "")):
            self.assertIs(pump_holds(oracle.FAR, thing), False, thing)
        for at, rules in enumerate(samples(64, 30)):
            for thing in odd.variants((rules.heard, rules.heard[0], rules.heard[-1]), at, 60):
                self.assertIs(pump_holds(rules, thing), oracle.pump_holds(rules, thing), thing)

    def test_pumps_of_any_values(self):
        for thing in odd.VALUES:
            for rules in FULL:
                self.assertIs(pump_holds(rules, thing), oracle.pump_holds(rules, thing))
        self.assertIs(pump_holds(oracle.NEXT, ("ab" * 1000, "ab" * 1000, "")), True)

    def test_mute_ahead_of_all_else(self):
        for rules in [rules for rules in oracle.NAMED + tuple(oracle.many_rules(65, 60)) if oracle.first_mute(rules)]:
            for call, told in ((class_of, ("a",)), (class_of, (None,)), (long_classes, ()), (pump_holds, (None,)),
                               (pump_holds, (("a", "a", ""),))):
                with self.assertRaises(Mute) as caught:
                    call(rules, *told)
                self.assertEqual(caught.exception.speech, oracle.first_mute(rules))

    def test_by_name(self):
        self.assertEqual(class_of(text="", rules=oracle.ANY), ((0,),))
        self.assertEqual(long_classes(rules=oracle.ANY), (((0,),),))
        self.assertIs(pump_holds(thing=("", "a", ""), rules=oracle.ANY), True)


if __name__ == "__main__":
    unittest.main()
