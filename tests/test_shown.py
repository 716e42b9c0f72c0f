"""Scenes, answers, what they cost, and where they lead."""

import unittest

from pacehouse.errors import Mute
from pacehouse.rules import Rules
from pacehouse.shown import answers, cost_of, is_scene, scene_behind, taken_back
from tests import odd, oracle, oracle_calm

FULL = [rules for rules in oracle.NAMED if oracle.first_mute(rules) is None and len(rules) < 5]
NOT_FULL = [rules for rules in oracle.NAMED + tuple(oracle.many_rules(71, 60)) if oracle.first_mute(rules) is not None]


class ScenesTest(unittest.TestCase):
    def test_all_scenes(self):
        for rules in FULL + oracle.many_full(72, 20):
            for reach in range(3):
                told = set(oracle_calm.scenes(rules, reach))
                for state in range(len(rules)):
                    for tail in oracle.texts(rules.heard, min(reach + 1, 2)):
                        for shown in oracle.texts(rules.written, min(reach + 1, 2)):
                            scene = (state, tail, shown)
                            self.assertIs(is_scene(rules, reach, scene), scene in told, (str(rules), reach, scene))
                for scene in told:
                    self.assertIs(is_scene(rules, reach, scene), True)

    def test_scenes_to_which_no_writer_comes(self):
        rules = Rules("a", "xy", ((("a", "x", 0),), (("a", "y", 0),)))
        self.assertIs(is_scene(rules, 0, (1, "", "")), True)
        self.assertIs(is_scene(rules, 1, (1, "a", "y")), True)
        self.assertIs(is_scene(rules, 2, (1, "aa", "yx")), True)
        self.assertIs(is_scene(rules, 2, (1, "aa", "yy")), False)
        self.assertIs(is_scene(rules, 1, (0, "a", "y")), False)

    def test_what_is_no_scene(self):
        for reach, thing in (
                (0, (0, "a", "a")), (1, (0, "aa", "aa")), (2, (0, "aab", "aba")), (2, (0, "a", "")), (2, (0, "", "a")),
                (2, (0, "ab", "b")), (2, (0, "a", "x")), (2, (0, "x", "a")), (2, (3, "", "")), (2, (-1, "", "")),
                (2, (False, "", "")), (2, (True, "a", "a")), (2, [0, "", ""]), (2, (0, "", "", "")), (2, (0, "")), (2, ()),
                (2, (0, ("a",), "a")), (2, (0, "a", ("a",))), (2, (0, "a", ["a"])), (2, (0, None, "")), (2, (0, "", None)),
                (2, (None, "", "")), (2, ("0", "", "")), (2, (0, 0, 0)), (2, ((0, "", ""),)), (2, (0, "A", "A")),
                (2, (0, "a\n", "aa")), (2, (0, "a" * 2000, "a" * 2000)), (2, (10 ** 39, "", "")), (0, None), (0, "")):
            self.assertIs(is_scene(oracle.NEXT, reach, thing), False, thing)
        self.assertIs(is_scene(oracle.NEXT, 2, (0, "ab", "ba")), True)

    def test_any_values(self):
        for rules in FULL:
            for reach in range(3):
                for thing in odd.VALUES:
                    self.assertIs(is_scene(rules, reach, thing), oracle_calm.is_scene(rules, reach, thing))
                for at, scene in enumerate(oracle_calm.scenes(rules, reach)[:12]):
                    for thing in odd.variants(scene, at, 40):
                        self.assertIs(is_scene(rules, reach, thing), oracle_calm.is_scene(rules, reach, thing), thing)


class AnswersTest(unittest.TestCase):
    def test_all_answers(self):
        none = states = 0
        for rules in FULL + oracle.many_full(73, 30) + oracle_calm.many_calm(73, 15, 2):
            for reach in range(3):
                for scene in oracle_calm.scenes(rules, reach):
                    for letter in rules.heard:
                        told = answers(rules, scene, letter)
                        self.assertEqual(told, oracle_calm.answers(rules, scene, letter))
                        none += told == ()
                        states += scene[0] > 0
                        for answer in told:
                            self.assertEqual(cost_of(scene, answer), oracle_calm.cost(scene[2], answer))
                            after = scene_behind(rules, reach, scene, letter, answer)
                            self.assertEqual(after, oracle_calm.behind(rules, reach, scene, letter, answer))
                            self.assertIs(is_scene(rules, reach, after), True)
        self.assertTrue(none > 30 and states > 100)

    def test_costs(self):
        self.assertEqual(cost_of((0, "", ""), "a"), 0)
        self.assertEqual(cost_of((0, "abb", "aba"), "abab"), 0)
        self.assertEqual(cost_of((0, "abb", "aba"), "abba"), 1)
        self.assertEqual(cost_of((2, "abb", "aba"), "aaba"), 2)
        self.assertEqual(cost_of((2, "abb", "aba"), "baba"), 3)

    def test_scenes_behind(self):
        self.assertEqual(scene_behind(oracle.ANY, 0, (0, "", ""), "b", "a"), (0, "", ""))
        self.assertEqual(scene_behind(oracle.NEXT, 0, (1, "", ""), "a", "b"), (2, "", ""))
        self.assertEqual(scene_behind(oracle.NEXT, 1, (1, "", ""), "a", "b"), (1, "a", "b"))
        self.assertEqual(scene_behind(oracle.NEXT, 1, (1, "a", "b"), "b", "ba"), (2, "b", "a"))
        self.assertEqual(scene_behind(oracle.NEXT, 2, (1, "ab", "bb"), "b", "bba"), (2, "bb", "ba"))

    def test_taken_back(self):
        for captions, told in (((), 0), (("",), 0), (("abab",), 0), (("", "a"), 0), (("a", "ba"), 1), (("", "a", "ba", "bab"), 1),
                               (("", "a", "ba", "abb", "abba", "babab"), 1 + 2 + 0 + 4), (("ab", "aaa", "aaab"), 1)):
            self.assertEqual(taken_back(captions), told)


class CallsTest(unittest.TestCase):
    def test_mute_ahead_of_all_else(self):
        for rules in NOT_FULL:
            for call, told in ((is_scene, (0, (0, "", ""))), (is_scene, (None, None)), (answers, ((0, "", ""), "a")),
                               (answers, (None, "zz")), (scene_behind, (0, (0, "", ""), "a", "a")),
                               (scene_behind, (1, None, None, None))):
                with self.assertRaises(Mute) as caught:
                    call(rules, *told)
                self.assertEqual(caught.exception.speech, oracle.first_mute(rules))

    def test_by_name_and_again(self):
        told = str(oracle.NEXT)
        for _ in range(2):
            self.assertIs(is_scene(thing=(0, "a", "b"), reach=1, rules=oracle.NEXT), True)
            self.assertEqual(answers(letter="b", scene=(0, "a", "a"), rules=oracle.NEXT), ("ba", "bb"))
            self.assertEqual(cost_of(answer="ba", scene=(0, "a", "a")), 1)
            self.assertEqual(
                scene_behind(answer="ba", letter="b", scene=(0, "a", "a"), reach=1, rules=oracle.NEXT), (2, "b", "a"))
            self.assertEqual(taken_back(captions=("", "a", "ba", "bab")), 1)
        self.assertEqual(str(oracle.NEXT), told)


if __name__ == "__main__":
    unittest.main()
