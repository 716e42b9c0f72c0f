"""Least rules, and rules from others."""

import random
import unittest

from pacehouse.errors import OtherLetters
from pacehouse.rules import Rules
from tests import oracle


def is_numbered_as_met(rules):
    """Whether each state but 0 comes for the first time when all lesser ones have come."""
    met = 1
    for state, row in enumerate(rules.rows):
        if state >= met:
            return False
        for _, _, after in row:
            if after > met:
                return False
            met = max(met, after + 1)
    return met == len(rules.rows)


class FromOthersTest(unittest.TestCase):
    def check_least(self, rules, heard, written, right, most):
        self.assertEqual((rules.heard, rules.written), (heard, written))
        self.assertEqual(oracle.right_pairs(rules, most), right)
        self.assertEqual(oracle.states_left_open(rules), len(rules.rows))
        self.assertTrue(is_numbered_as_met(rules))
        self.assertEqual(rules.least(), rules)

    def samples(self, seed):
        return oracle.NAMED + tuple(oracle.many_rules(seed, 80))

    def test_least(self):
        for rules in self.samples(11):
            told = str(rules)
            least = rules.least()
            self.check_least(least, rules.heard, rules.written, oracle.right_pairs(rules, 5), 5)
            self.assertEqual(len(least.rows), oracle.states_left_open(rules))
            self.assertEqual(str(rules), told)

    def test_least_of_other_numbers(self):
        rng = random.Random(12)
        for rules in self.samples(13):
            numbers = [0] + rng.sample(range(1, len(rules.rows) + 1), len(rules.rows) - 1)
            rows = [()] * (len(rules.rows) + 1)
            for state, row in enumerate(rules.rows):
                rows[numbers[state]] = tuple((h, c, numbers[after]) for h, c, after in row)
            spare = ({*range(len(rules.rows) + 1)} - {*numbers}).pop()
            rows[spare] = tuple((h, c, rng.randrange(len(rows))) for h in rules.heard for c in rules.written)
            self.assertEqual(Rules(rules.heard, rules.written, tuple(rows)).least(), rules.least())

    def test_least_drops_what_nothing_leads_to(self):
        rules = Rules("a", "x", ((("a", "x", 2),), (("a", "x", 0),), ()))
        self.assertEqual(rules.least(), Rules("a", "x", ((("a", "x", 1),), ())))

    def test_least_of_a_long_chain(self):
        rows = tuple((("a", "x", state + 1),) for state in range(299)) + ((),)
        self.assertEqual(Rules("a", "x", rows).least().rows, rows)

    def test_both_and_either(self):
        rng = random.Random(14)
        for _ in range(150):
            heard, written = rng.choice((("ab", "xy"), ("a", "xyz"), ("abc", "x"), ("ab", "ab")))
            one, other = (oracle.random_rules(rng, heard, written, 4, rng.choice((4, 6, 9))) for _ in range(2))
            told = (str(one), str(other))
            ones, others = oracle.right_pairs(one, 5), oracle.right_pairs(other, 5)
            self.check_least(one & other, heard, written, ones & others, 5)
            self.check_least(one | other, heard, written, ones | others, 5)
            self.assertEqual(one & other, other & one)
            self.assertEqual(one | other, other | one)
            self.assertEqual((str(one), str(other)), told)
        self.assertEqual(oracle.NEXT & oracle.ANY, oracle.NEXT.least())
        self.assertEqual(oracle.NEXT | oracle.ANY, oracle.ANY)
        self.assertEqual(oracle.NEXT | oracle.NEXT, oracle.NEXT.least())

    def test_larger_ones(self):
        rows = [tuple(("a", "x", (state + 1) % many) for _ in range(1)) + ((("b", "x", 0),) if state == 0 else ())
                for many in (4, 5) for state in range(many)]
        one, other = Rules("ab", "x", tuple(rows[:4])), Rules("ab", "x", tuple(rows[4:]))
        both = one & other
        self.assertEqual(oracle.right_pairs(both, 8), oracle.right_pairs(one, 8) & oracle.right_pairs(other, 8))
        self.assertEqual(len(both), 20)
        either = both | one | other
        self.assertEqual(oracle.right_pairs(either, 8), oracle.right_pairs(one, 8) | oracle.right_pairs(other, 8))

    def test_other_letters(self):
        one = Rules("ab", "xy", ((),))
        for other in (Rules("a", "xy", ((),)), Rules("ab", "x", ((),)), Rules("ac", "xy", ((),)), Rules("xy", "ab", ((),)),
                      Rules("ab", "xyz", ((),))):
            for call in (lambda: one & other, lambda: one | other, lambda: other & one, lambda: other | one):
                self.assertRaises(OtherLetters, call)

    def test_flipped(self):
        for rules in self.samples(15):
            right = {(caption, speech) for speech, caption in oracle.right_pairs(rules, 4)}
            # All pairs of few signs by the flipped rules: their speeches are the captions.
            self.check_least(rules.flipped(), rules.written, rules.heard, right, 4)
            self.assertEqual(rules.flipped().flipped(), rules.least())

    def test_respelled(self):
        rng = random.Random(16)
        for rules in self.samples(17):
            heard = "".join(rng.sample("abcdefxyz", len(rules.heard)))
            written = "".join(rng.sample("abcdefxyz", len(rules.written)))
            other = rules.respelled(heard, written)
            ears, pens = dict(zip(rules.heard, heard)), dict(zip(rules.written, written))
            rows = tuple(tuple(sorted((ears[h], pens[c], after) for h, c, after in row)) for row in rules.rows)
            self.assertEqual(other, Rules("".join(sorted(heard)), "".join(sorted(written)), rows))

    def test_respelled_is_not_least(self):
        rules = Rules("ab", "x", ((("a", "x", 1), ("b", "x", 0)), (("a", "x", 0), ("b", "x", 1))))
        self.assertEqual(rules.respelled("ba", "z").rows, ((("a", "z", 0), ("b", "z", 1)), (("a", "z", 1), ("b", "z", 0))))
        self.assertEqual(rules.respelled(written="x", heard="ab"), rules)


if __name__ == "__main__":
    unittest.main()
