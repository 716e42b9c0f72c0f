"""Plain captions, what they take back, and lists."""

import unittest

from pacehouse.errors import Mute
from pacehouse.lists import list_of, plain_back, plain_caption
from pacehouse.shown import taken_back
from tests import odd, oracle, oracle_mending
from tests.test_shown import NOT_FULL


def samples(seed, count):
    return [rules for rules in oracle.NAMED if oracle.first_mute(rules) is None] + oracle.many_full(seed, count)


def back_along(rules, speech):
    """What each letter takes back, from the first captions of all beginnings of a speech."""
    shown = [min(oracle_mending.firsts(rules, speech[:many]).values()) for many in range(len(speech) + 1)]
    return tuple(oracle_mending.back(one, other) for one, other in zip(shown, shown[1:]))


class ListsTest(unittest.TestCase):
    def test_beside_all_right_captions(self):
        forks, numbers = set(), set()
        for rules in samples(351, 40):
            told = str(rules)
            for speech in oracle.texts(rules.heard, 5 if len(rules.heard) < 3 else 4):
                firsts = oracle_mending.firsts_of_all(rules, speech)
                self.assertEqual(firsts, oracle_mending.firsts(rules, speech))
                self.assertTrue(odd.same_kind(list_of(rules, speech), oracle_mending.list_from(firsts)))
                self.assertEqual(plain_caption(rules, speech), oracle_mending.right_captions(rules, speech)[0])
                self.assertTrue(odd.same_kind(plain_back(rules, speech), back_along(rules, speech)))
                self.assertEqual(len(plain_back(rules, speech)), len(speech))
                forks.update(fork for _, fork in list_of(rules, speech))
                numbers.update(plain_back(rules, speech))
            self.assertEqual(str(rules), told)
        self.assertTrue(forks >= {0, 1, 2, 3, 4} and numbers >= {0, 1, 2, 3, 4}, (forks, numbers))

    def test_empty_speech(self):
        for rules in samples(352, 5):
            self.assertTrue(odd.same_kind(list_of(rules, ""), ((0, 0),)))
            self.assertTrue(odd.same_kind((plain_caption(rules, ""), plain_back(rules, "")), ("", ())))

    def test_sixty_letters(self):
        greatest = 0
        for rules in samples(353, 20):
            letters = rules.heard
            for speech in (letters[0] * 60, letters[0] * 59 + letters[-1], letters[0] * 30 + letters[-1] * 30, (letters * 60)[:60],
                           (letters[::-1] + letters[0]) * 15):
                firsts = oracle_mending.firsts(rules, speech)
                self.assertEqual(list_of(rules, speech), oracle_mending.list_from(firsts))
                self.assertEqual(plain_caption(rules, speech), min(firsts.values()))
                self.assertEqual(plain_back(rules, speech), back_along(rules, speech))
                shown = tuple(plain_caption(rules, speech[:many]) for many in range(len(speech) + 1))
                self.assertEqual(taken_back(shown), sum(plain_back(rules, speech)))
                greatest = max(greatest, *plain_back(rules, speech))
        self.assertEqual(greatest, 59)

    def test_known(self):
        self.assertEqual(plain_back(oracle.PROMISE, "a" * 59 + "b"), (0,) * 59 + (59,))
        self.assertEqual(list_of(oracle.PROMISE, "aaa"), ((1, 0), (2, 3)))
        self.assertEqual(list_of(oracle.PROMISE, "aaab"), ((2, 0),))
        self.assertEqual(list_of(oracle.ANY, "abab"), ((0, 0),))


class CallsTest(unittest.TestCase):
    def test_mute_ahead_of_all_else(self):
        for rules in NOT_FULL:
            for call in (list_of, plain_caption, plain_back):
                for speech in ("", "a", "zz", None):
                    with self.assertRaises(Mute) as caught:
                        call(rules, speech)
                    self.assertEqual(caught.exception.speech, oracle.first_mute(rules))

    def test_by_name(self):
        told = str(oracle.NEXT)
        for _ in range(2):
            self.assertEqual(list_of(speech="a", rules=oracle.NEXT), ((1, 0), (2, 1)))
            self.assertEqual(plain_caption(speech="ab", rules=oracle.NEXT), "ba")
            self.assertEqual(plain_back(speech="abb", rules=oracle.NEXT), (0, 1, 1))
        self.assertEqual(str(oracle.NEXT), told)

    def test_returned_rules(self):
        self.assertEqual(plain_caption(oracle.NEXT.flipped().flipped(), "abba"), plain_caption(oracle.NEXT, "abba"))
        self.assertEqual(plain_back(oracle.PROMISE | oracle.PROMISE, "aaab"), (0, 0, 0, 3))


if __name__ == "__main__":
    unittest.main()
