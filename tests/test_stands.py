"""Stands that are open."""

import unittest

from pacehouse.errors import Mute
from pacehouse.stands import is_open
from tests import oracle


class StandsTest(unittest.TestCase):
    def test_beside_all_captions(self):
        for rules in [rules for rules in oracle.NAMED if oracle.first_mute(rules) is None] + oracle.many_full(41, 40):
            for state in range(len(rules.rows)):
                for waiting in oracle.texts(rules.heard, 4):
                    self.assertIs(is_open(rules, state, waiting), oracle.ways(rules, state, waiting) != [])

    def test_empty_waiting_text(self):
        for state in range(4):
            self.assertIs(is_open(oracle.FAR, state, ""), True)

    def test_long_waiting_texts(self):
        self.assertIs(is_open(oracle.FAR, 1, "x" * 59 + "a"), True)
        self.assertIs(is_open(oracle.FAR, 2, "x" * 59 + "a"), False)
        self.assertIs(is_open(oracle.NEXT, 1, "ba"), False)

    def test_mute(self):
        for state, waiting in ((0, ""), (1, "a"), (7, "zz"), (None, None)):
            with self.assertRaises(Mute) as caught:
                is_open(oracle.LATE, state, waiting)
            self.assertEqual(caught.exception.speech, "b")

    def test_by_name(self):
        self.assertIs(is_open(waiting="b", state=2, rules=oracle.NEXT), True)


if __name__ == "__main__":
    unittest.main()
