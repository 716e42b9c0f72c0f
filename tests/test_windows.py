"""What watchers let by who see some neighbouring signs at once."""

import unittest

from pacehouse.pairs import are_same, is_within
from pacehouse.rules import Rules
from pacehouse.windows import is_let_by, let_by, stops_at
from tests import odd, oracle, oracle_windows

SIZES = (1, 2, 3, 4, 5, 6)
SMALL = (("ab", "ab"), ("a", "xy"), ("ab", "x"))
# The state 0 is led back to after three signs; state 4 is never led to; state 3 has no moves.
RING = Rules("ab", "xy", (
    (("a", "x", 1), ("b", "y", 3)), (("a", "x", 2), ("a", "y", 2)), (("a", "x", 0),), (), (("b", "x", 4), ("b", "y", 0))))


def samples(seed, count):
    return [rules for rules in oracle.NAMED + (RING,) if len(rules.heard) < 3] + oracle.many_rules(seed, count, SMALL)


class WindowsTest(unittest.TestCase):
    def test_beside_all_short_pairs(self):
        seen = {True: 0, False: 0}
        for rules in samples(201, 25):
            told = str(rules)
            most = 5 if len(rules.heard) * len(rules.written) < 4 else 4
            for size in SIZES:
                for speech, caption in oracle.pairs(rules.heard, rules.written, most):
                    stop = oracle_windows.stops_at(rules, size, speech, caption)
                    self.assertTrue(odd.same_kind(stops_at(rules, size, speech, caption), stop))
                    self.assertIs(is_let_by(rules, size, speech, caption), stop is None)
                    seen[stop is None] += 1
            self.assertEqual(str(rules), told)
        self.assertTrue(min(seen.values()) > 5000, seen)

    def test_windows_of_right_pairs_alone(self):
        """What the windows are of which the slow look tells by states: those of all short right pairs."""
        for rules in oracle.many_rules(202, 40, SMALL, most=3) + [oracle.NEXT, oracle.FIRST, oracle.ECHO, oracle.SILENT]:
            signs = list(oracle.pairs(rules.heard, rules.written, 2))
            for size in (1, 2):
                seen = oracle_windows.seen_windows(rules, size, 4 + size)
                states = oracle_windows.inner(rules)
                for pair in signs:
                    if len(pair[0]) == size:
                        told = any(rules.led(state, *pair) is not None for state in states)
                        self.assertEqual(pair in seen, told)

    def test_shorter_than_the_size_and_empty(self):
        for rules in samples(203, 10):
            for size in SIZES:
                self.assertIs(is_let_by(rules, size, "", ""), True)
                self.assertIsNone(stops_at(rules, size, "", ""))
        self.assertIs(is_let_by(oracle.NEXT, 3, "ab", "aa"), False)
        self.assertIs(is_let_by(oracle.NEXT, 3, "ab", "ba"), True)
        self.assertEqual(stops_at(oracle.NEXT, 6, "ab", "aa"), 2)
        self.assertIsNone(stops_at(oracle.SILENT, 1, "", ""))
        self.assertEqual([stops_at(oracle.SILENT, size, "aaa", "xxx") for size in SIZES], [1] * 6)
        # What stands first is looked at as a first sign alone: b may be written below a later a, not below the first one.
        rules = Rules("a", "xy", ((("a", "x", 1),), (("a", "y", 1),)))
        self.assertEqual([stops_at(rules, size, "aa", "xx") for size in (1, 2)], [2, 2])
        self.assertEqual([stops_at(rules, size, "aa", "yy") for size in (1, 2)], [1, 1])
        self.assertIs(is_let_by(rules, 1, "aaa", "xyy"), True)

    def test_long_pairs(self):
        speech = "a" * 30 + "b" + "a" * 29
        self.assertIsNone(stops_at(oracle.FIRST, 6, speech, "b" + "a" * 59))
        self.assertIs(oracle.FIRST.is_right(speech, "b" + "a" * 59), False)
        self.assertEqual(stops_at(oracle.FIRST, 6, "ab" + "a" * 58, "b" + "a" * 59), 2)
        self.assertEqual(stops_at(oracle.ECHO, 1, "b" * 60, "b" * 59 + "a"), 60)

    def test_lesser_sizes_and_beginnings(self):
        for rules in samples(204, 20):
            for pair in oracle.pairs(rules.heard, rules.written, 4):
                stops = [stops_at(rules, size, *pair) for size in SIZES]
                for one, other in zip(stops, stops[1:]):
                    self.assertTrue(one is None or (other is not None and other <= one))
                if rules.is_right(*pair):
                    self.assertEqual(stops, [None] * 6)


class LetByTest(unittest.TestCase):
    def test_beside_all_short_pairs(self):
        for rules in samples(205, 25):
            told = str(rules)
            most = 5 if len(rules.heard) * len(rules.written) < 4 else 4
            for size in SIZES:
                watched = let_by(rules, size)
                self.assertIsInstance(watched, Rules)
                self.assertEqual((watched.heard, watched.written), (rules.heard, rules.written))
                for pair in oracle.pairs(rules.heard, rules.written, most):
                    self.assertIs(watched.is_right(*pair), oracle_windows.is_let_by(rules, size, *pair))
                self.assertEqual(let_by(rules, size), watched)
            self.assertEqual(str(rules), told)

    def test_longer_pairs(self):
        # Pairs that are longer than the sizes: a window that is bad must stop the pair wherever it stands.
        for rules in samples(206, 30):
            for size in SIZES:
                watched = let_by(rules, size)
                for caption in (rules.written * 7, rules.written[0] * 12, rules.written[::-1] * 6, rules.written[0] * 9 + rules.written[-1]):
                    for speech in ((rules.heard * 14)[:len(caption)], (rules.heard[0] * 60)[:len(caption)]):
                        stop = oracle_windows.stops_at(rules, size, speech, caption)
                        self.assertEqual(watched.is_right(speech, caption), stop is None)
                        self.assertEqual(stops_at(rules, size, speech, caption), stop)

    def test_within(self):
        for rules in samples(207, 25):
            watched = [let_by(rules, size) for size in SIZES]
            for one, other in zip(watched, watched[1:]):
                self.assertIs(is_within(other, one), True)
                self.assertIs(is_within(rules, other), True)
            tells = [are_same(rules, one) for one in watched]
            self.assertEqual(tells, [oracle_windows.tells(rules, size) for size in SIZES])

    def test_states_to_which_nothing_leads(self):
        rows = ((("a", "x", 1),), (("a", "y", 1),))
        for more in (((("a", "x", 2), ("a", "y", 2)),), ((("a", "x", 0),), ())):
            for size in SIZES:
                self.assertEqual(let_by(Rules("a", "xy", rows + more), size), let_by(Rules("a", "xy", rows), size))
                self.assertEqual(stops_at(Rules("a", "xy", rows + more), size, "aaa", "xyx"), 3)

    def test_returned_rules(self):
        for size in SIZES:
            self.assertIs(are_same(let_by(let_by(oracle.FIRST, size), size), let_by(oracle.FIRST, size)), True)


class CallsTest(unittest.TestCase):
    def test_by_name(self):
        told = str(oracle.NEXT)
        for _ in range(2):
            self.assertIs(is_let_by(caption="aa", speech="ab", size=1, rules=oracle.NEXT), True)
            self.assertIs(is_let_by(caption="aa", speech="ab", size=2, rules=oracle.NEXT), False)
            self.assertEqual(stops_at(caption="aa", speech="ab", size=2, rules=oracle.NEXT), 2)
            self.assertIs(are_same(let_by(size=2, rules=oracle.NEXT), oracle.NEXT), True)
        self.assertEqual(str(oracle.NEXT), told)


if __name__ == "__main__":
    unittest.main()
