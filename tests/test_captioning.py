"""Captions of speeches; mute speeches and full rules."""

import unittest

from pacehouse.captioning import captions, first_caption, is_full, mute, number_of_captions, reached
from pacehouse.rules import Rules
from tests import odd, oracle


class CaptionsTest(unittest.TestCase):
    def samples(self):
        return oracle.NAMED + tuple(oracle.many_rules(21, 40))

    def test_beside_all_captions(self):
        for rules in self.samples():
            for state in range(len(rules.rows)):
                for speech in oracle.texts(rules.heard, 4):
                    ways = oracle.ways(rules, state, speech)
                    told = tuple(sorted(caption for caption, _ in ways))
                    self.assertTrue(odd.same_kind(captions(rules, state, speech), told))
                    self.assertEqual(number_of_captions(rules, state, speech), len(told))
                    self.assertEqual(first_caption(rules, state, speech), told[0] if told else None)
                    self.assertTrue(odd.same_kind(
                        reached(rules, state, speech), tuple(sorted({end for _, end in ways}))))

    def test_empty_speech(self):
        for rules in self.samples():
            for state in range(len(rules.rows)):
                self.assertEqual(captions(rules, state, ""), ("",))
                self.assertEqual(number_of_captions(rules, state, ""), 1)
                self.assertEqual(first_caption(rules, state, ""), "")
                self.assertEqual(reached(rules, state, ""), (state,))

    def test_long_speeches(self):
        speech = "ab" * 30
        self.assertEqual(number_of_captions(oracle.ANY, 0, speech), 2 ** 60)
        self.assertEqual(number_of_captions(oracle.ECHO, 0, speech), 1)
        self.assertEqual(number_of_captions(oracle.NEXT, 0, speech), 2)
        self.assertEqual(first_caption(oracle.ANY, 0, speech), "a" * 60)
        self.assertEqual(first_caption(oracle.NEXT, 0, speech), speech[1:] + "a")
        self.assertEqual(first_caption(oracle.FAR, 0, "x" * 59 + "b"), "b" + "a" * 59)
        self.assertIsNone(first_caption(oracle.FAR, 1, "x" * 59 + "b"))
        self.assertEqual(reached(oracle.FAR, 0, "x" * 60), (1, 2))
        self.assertEqual(reached(oracle.FAR, 2, "x" * 59 + "a"), ())
        self.assertEqual(number_of_captions(oracle.FAR, 2, "x" * 59 + "a"), 0)
        self.assertEqual(len(captions(oracle.ANY, 0, "abbaabba")), 256)

    def test_by_name(self):
        self.assertEqual(reached(speech="a", state=0, rules=oracle.NEXT), (1, 2))
        self.assertEqual(first_caption(speech="ab", state=0, rules=oracle.NEXT), "ba")
        self.assertEqual(captions(speech="ab", state=0, rules=oracle.NEXT), ("ba", "bb"))
        self.assertEqual(number_of_captions(speech="ab", state=0, rules=oracle.NEXT), 2)


class MuteTest(unittest.TestCase):
    def test_beside_speeches_one_by_one(self):
        for rules in oracle.NAMED + tuple(oracle.many_rules(22, 300)):
            told = mute(rules)
            self.assertEqual(told, oracle.first_mute(rules))
            self.assertIs(is_full(rules), told is None)
            for speech in oracle.texts(rules.heard, 5):
                if told is None or len(speech) < len(told) or (len(speech) == len(told) and speech < told):
                    self.assertTrue(oracle.ends(rules, {0}, speech))
            if told is not None:
                self.assertFalse(oracle.ends(rules, {0}, told))

    def test_states_without_moves(self):
        self.assertEqual(mute(oracle.SILENT), "a")
        self.assertEqual(mute(Rules("ab", "x", ((("a", "x", 1), ("b", "x", 0)), ()))), "aa")
        self.assertIsNone(mute(Rules("a", "xy", ((("a", "x", 0), ("a", "y", 1)), ()))))
        self.assertIs(is_full(Rules("a", "x", ((("a", "x", 0),), ()))), True)

    def test_a_long_one(self):
        # Only behind six letters no state is left.
        rows = tuple((("a", "x", state + 1), ("b", "x", state)) for state in range(4)) + ((("b", "x", 4),),)
        self.assertEqual(mute(Rules("ab", "x", rows)), "aaaaa")

    def test_by_name(self):
        self.assertEqual(mute(rules=oracle.LATE), "b")
        self.assertIs(is_full(rules=oracle.LATE), False)


if __name__ == "__main__":
    unittest.main()
