"""The plain mean: how many signs the plain captioner takes back in the long run."""

import math
import unittest
from fractions import Fraction

from pacehouse.errors import Mute
from pacehouse.lists import plain_back
from pacehouse.means import least_mean
from pacehouse.plain import judge_plain, most_back
from pacehouse.plainmeans import plain_mean
from tests import odd, oracle, oracle_plain
from tests.test_shown import NOT_FULL


def samples(seed, count):
    return oracle_plain.FULL + oracle_plain.many_plain(seed, count)


class MeansTest(unittest.TestCase):
    def test_beside_a_slow_search(self):
        found = set()
        for rules in samples(421, 160):
            mean = plain_mean(rules)
            most = most_back(rules)
            self.assertEqual(mean is None, judge_plain(rules)[0] == "ring")
            found.add(mean)
            if mean is None or len(oracle_plain.met_lists(rules, most)) > 25:
                continue
            told = oracle_plain.greatest_mean(rules, most)
            self.assertTrue(odd.same_kind(mean, (told.numerator, told.denominator)), (str(rules), mean, told))
            self.assertEqual(math.gcd(*mean), 1)
        self.assertTrue(found >= {None, (0, 1), (1, 1), (1, 2), (2, 3)}, found)

    def test_no_speech_takes_back_more_in_the_long_run(self):
        """Behind n letters at most n * p / q signs, and as many more as there are lists times the most at once."""
        for rules in samples(422, 80):
            mean = plain_mean(rules)
            if mean is not None:
                spare = most_back(rules) * len(judge_plain(rules)[2])
                for speech in (rules.heard * 20, rules.heard[::-1] * 20, (rules.heard[0] * 2 + rules.heard[-1]) * 15, rules.heard[0] * 60):
                    self.assertTrue(sum(plain_back(rules, speech)) <= Fraction(*mean) * len(speech) + spare)

    def test_nought_if_nothing_is_ever_taken_back(self):
        for rules in samples(423, 100):
            if most_back(rules) == 0:
                self.assertTrue(odd.same_kind(plain_mean(rules), (0, 1)))

    def test_not_below_the_least_mean(self):
        """The plain captioner is a writer of the reach that it takes back at most: no writer has a lesser mean than the least."""
        seen = 0
        for rules in oracle_plain.FULL + oracle.many_full(424, 60, (("ab", "ab"), ("a", "xy"))):
            most = most_back(rules)
            if most is not None and most <= 2 and len(rules.heard) < 3:
                seen += 1
                self.assertTrue(Fraction(*least_mean(rules, most)) <= Fraction(*plain_mean(rules)))
        self.assertTrue(seen > 30)

    def test_known(self):
        self.assertEqual(plain_mean(oracle.NEXT), (1, 1))
        self.assertEqual(plain_mean(oracle.TURNS), (1, 2))
        self.assertEqual(plain_mean(oracle.ONCE), (0, 1))
        self.assertEqual(plain_mean(oracle.ANY), (0, 1))
        self.assertIsNone(plain_mean(oracle.PROMISE))


class CallsTest(unittest.TestCase):
    def test_mute_ahead_of_all_else(self):
        for rules in NOT_FULL:
            with self.assertRaises(Mute) as caught:
                plain_mean(rules)
            self.assertEqual(caught.exception.speech, oracle.first_mute(rules))

    def test_by_name(self):
        told = str(oracle.NEXT)
        self.assertEqual([plain_mean(rules=oracle.NEXT) for _ in range(2)], [(1, 1)] * 2)
        self.assertEqual(str(oracle.NEXT), told)

    def test_returned_rules(self):
        self.assertEqual(plain_mean(oracle.NEXT | oracle.NEXT), (1, 1))


if __name__ == "__main__":
    unittest.main()
