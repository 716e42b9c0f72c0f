"""Two rules beside each other."""

import random
import unittest

from pacehouse.errors import OtherLetters
from pacehouse.pairs import are_same, compared, compared_holds, is_within, parting
from pacehouse.rules import Rules
from tests import odd, oracle


def changed_rules(rules, rng):
    """Rules with one move left out or leading elsewhere."""
    rows = [list(row) for row in rules.rows]
    state = rng.randrange(len(rows))
    if rows[state]:
        at = rng.randrange(len(rows[state]))
        h, c, _ = rows[state].pop(at)
        if rng.random() < 0.6:
            rows[state].insert(at, (h, c, rng.randrange(len(rows))))
    return Rules(rules.heard, rules.written, tuple(tuple(row) for row in rows))


def couples(seed, count):
    """Pairs of rules with the same letters, many of them nearly the same."""
    rng = random.Random(seed)
    for _ in range(count):
        heard, written = rng.choice((("ab", "xy"), ("ab", "x"), ("a", "xy")))
        one = oracle.random_rules(rng, heard, written, 5, rng.choice((5, 7, 9)))
        other = rng.choice((one, one.least(), changed_rules(one, rng), changed_rules(one, rng), one | changed_rules(one, rng)))
        yield one, other


class PairsTest(unittest.TestCase):
    def first_apart(self, one, other, most):
        ones, others = oracle.right_pairs(one, most), oracle.right_pairs(other, most)
        for pair in oracle.pairs(one.heard, one.written, most):
            if (pair in ones) != (pair in others):
                return pair
        return None

    def test_beside_pairs_one_by_one(self):
        seen = {"same": 0, "apart": 0}
        for one, other in couples(31, 250):
            told = self.first_apart(one, other, 5 if len(one.heard + one.written) < 4 else 4)
            found = parting(one, other)
            if told is not None or found is None:
                self.assertEqual(found, told)
            else:
                self.assertEqual(len({rules.is_right(*found) for rules in (one, other)}), 2)
            self.assertEqual(found, parting(other, one))
            self.assertIs(are_same(one, other), found is None)
            self.assertEqual(one.least() == other.least(), found is None)
            paper = compared(one, other)
            seen[paper[0]] += 1
            self.assertEqual(paper[0], "same" if found is None else "apart")
            self.assertTrue(oracle.compared_holds(one, other, paper))
            self.assertIs(compared_holds(one, other, paper), True)
        self.assertTrue(min(seen.values()) > 40, seen)

    def test_is_within(self):
        seen = {True: 0, False: 0}
        for one, other in couples(32, 250):
            both = one & other
            seen[is_within(one, other)] += 1
            self.assertIs(is_within(one, other), both.least() == one.least())
            self.assertIs(is_within(other, one), both.least() == other.least())
            self.assertIs(is_within(both, one), True)
            self.assertIs(is_within(one, one | other), True)
            if is_within(one, other):
                self.assertTrue(oracle.right_pairs(one, 4) <= oracle.right_pairs(other, 4))
        self.assertTrue(min(seen.values()) > 40, seen)
        self.assertIs(is_within(oracle.NEXT, oracle.ANY), True)
        self.assertIs(is_within(oracle.ANY, oracle.NEXT), False)

    def test_far_apart(self):
        chains = [Rules("a", "x", tuple((("a", "x", (state + 1) % many),) for state in range(many - 1)) + ((),))
                  for many in (200, 201)]
        self.assertEqual(parting(*chains), ("a" * 200, "x" * 200))

    def test_papers_put_together_otherwise(self):
        for one, other in couples(33, 100):
            if not are_same(one, other):
                for pair in oracle.pairs(one.heard, one.written, 3):
                    self.assertIs(compared_holds(one, other, ("apart", *pair)), one.is_right(*pair) != other.is_right(*pair))
                continue
            # All pairs of states from which the same pairs lead on, met or not.
            good = {(s, t) for s in range(len(one)) for t in range(len(other))}
            for _ in range(len(good)):
                good = {(s, t) for s, t in good if [x[:2] for x in one.rows[s]] == [x[:2] for x in other.rows[t]]
                        and all((x[2], y[2]) in good for x, y in zip(one.rows[s], other.rows[t]))}
            paper = ("same", tuple(sorted(good)))
            self.assertTrue(oracle.compared_holds(one, other, paper))
            self.assertIs(compared_holds(one, other, paper), True)
            self.assertIs(compared_holds(one, other, ("apart", "a", "x")), False)

    def test_one_thing_otherwise(self):
        seen = {True: 0, False: 0}
        for at, (one, other) in enumerate(couples(34, 60)):
            for thing in odd.variants(compared(one, other), at, 60):
                told = oracle.compared_holds(one, other, thing)
                seen[told] += 1
                self.assertIs(compared_holds(one, other, thing), told, thing)
        self.assertTrue(min(seen.values()) > 40, seen)

    def test_kinds_of_parts(self):
        paper = compared(oracle.NEXT, oracle.NEXT)
        self.assertEqual(paper, ("same", ((0, 0), (1, 1), (2, 2))))
        for thing in (list(paper), ("same", list(paper[1])), ("same", ((False, 0), (1, 1), (2, 2))),
                      ("same", ((0, 0), (True, 1), (2, 2))), ("same", ((0, 0), [1, 1], (2, 2))), ("same", paper[1][::-1]),
                      ("same", paper[1] + paper[1][2:]), ("same", paper[1][1:]), ("same", paper[1][:2]), (*paper, None),
                      ("same", ((0, 0), (1, 1), (2, 2), (3, 3))), ("same", ((-1, 0),) + paper[1]), ("same",), "same"):
            self.assertIs(compared_holds(oracle.NEXT, oracle.NEXT, thing), False)
        for thing in (("apart", "ab", "aa", ""), ["apart", "ab", "aa"], ("apart", ("a", "b"), "aa"), ("apart", "ab", "ba"),
                      ("apart", ["a", "b"], ["a", "a"]), ("apart", "cc", "cc"), ("apart", "", "")):
            self.assertIs(compared_holds(oracle.NEXT, oracle.ANY, thing), False)
        self.assertIs(compared_holds(oracle.NEXT, oracle.ANY, ("apart", "aab", "aaa")), True)

    def test_any_values(self):
        for thing in odd.VALUES:
            for one, other in ((oracle.NEXT, oracle.ANY), (oracle.NEXT, oracle.NEXT)):
                self.assertIs(compared_holds(one, other, thing), oracle.compared_holds(one, other, thing))

    def test_other_letters_ahead_of_all_else(self):
        one = Rules("ab", "xy", ((),))
        for other in (Rules("a", "xy", ((),)), Rules("ab", "x", ((),)), Rules("xy", "ab", ((),))):
            for call in (are_same, is_within, parting, compared):
                self.assertRaises(OtherLetters, call, one, other)
                self.assertRaises(OtherLetters, call, other, one)
            for thing in (None, ("same", ((0, 0),)), [{}]):
                self.assertRaises(OtherLetters, compared_holds, one, other, thing)

    def test_by_name(self):
        for call, told in ((are_same, False), (is_within, True), (parting, ("ab", "aa")), (compared, ("apart", "ab", "aa"))):
            self.assertEqual(call(other=oracle.ANY, one=oracle.NEXT), told)
        self.assertIs(compared_holds(thing=("apart", "ab", "aa"), other=oracle.ANY, one=oracle.NEXT), True)


if __name__ == "__main__":
    unittest.main()
