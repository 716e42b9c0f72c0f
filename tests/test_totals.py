"""Least totals and forced cells."""

import unittest
from fractions import Fraction

from pacehouse.errors import Mute, TooSoon
from pacehouse.means import calm_cells, least_mean
from pacehouse.lateplans import can_be_late
from pacehouse.rules import Rules
from pacehouse.totals import forced_cells, forced_holds, least_total
from tests import odd, oracle, oracle_calm
from tests.test_means import samples
from tests.test_shown import FULL, NOT_FULL

NUMBERS = (1, 2, 3, 4, 8)


# Rules with reaches, each with a least total from 1 on.
SPENDING = [(oracle_calm.from_moves(*rows), reach) for rows, reach in (
    (("aa2 ab3 ba0", "aa1 ab3 ba1 bb1", "aa3 ab1", "ba1 bb2"), 1),
    (("aa2 ab3 ba1 bb3", "ab0", "aa2 ba2 bb2", "bb2"), 1),
    (("aa3 ab1 ba0 bb0", "ab0", "aa2 ab0 ba2 bb0", "bb2"), 1),
    (("aa1 ab3 ba3 bb2", "aa1 ab3 bb1", "aa3 ba2 bb0", "aa0 ab0"), 1),
    (("aa1 ab0 ba3 bb2", "aa1 ab1 ba1", "ba2 bb0", "aa2 ab3 ba2"), 1),
    (("aa3 ab2 bb1", "aa1 ba1", "ba0", "aa1"), 2))]


class TotalsTest(unittest.TestCase):
    def test_kinds(self):
        for rules, reach, _, total in oracle_calm.KINDS:
            self.assertEqual(least_total(rules, reach), total)

    def test_greater_totals(self):
        # The first k signs promise one of the next letters each; behind that all is free: each promise costs a sign.
        for many in (1, 2, 3):
            rows = []
            for at in range(many):
                rows.append((("a", "a", 1 + 3 * at), ("a", "b", 2 + 3 * at), ("b", "a", 1 + 3 * at), ("b", "b", 2 + 3 * at)))
                rows.append((("a", "a", 3 + 3 * at), ("a", "b", 3 + 3 * at)))
                rows.append((("b", "a", 3 + 3 * at), ("b", "b", 3 + 3 * at)))
            rows.append((("a", "a", 3 * many), ("a", "b", 3 * many), ("b", "a", 3 * many), ("b", "b", 3 * many)))
            rules = Rules("ab", "ab", tuple(rows)).least()
            self.assertEqual(least_total(rules, 1), many)
            self.assertEqual(least_mean(rules, 1), (0, 1))
            for number in (1, 2, 3, 4):
                self.assertEqual(forced_cells(rules, 1, number) is None, number > many)

    def test_beside_a_slow_search(self):
        found = set()
        for rules, reach in samples(101) + SPENDING:
            told = str(rules)
            total = least_total(rules, reach)
            self.assertTrue(odd.same_kind(total, oracle_calm.least_total(rules, reach)))
            self.assertTrue(odd.same_kind(least_total(rules, reach), total))
            self.assertEqual(total is not None, least_mean(rules, reach) == (0, 1))
            self.assertEqual(total == 0, can_be_late(rules, 0))
            cells = calm_cells(rules, reach, (0, 1))
            self.assertEqual(total is None, cells is None)
            self.assertTrue(total is None or cells[0][3] >= total)
            self.assertEqual(str(rules), told)
            found.add(total)
        self.assertTrue(found >= {None, 0, 1, 2}, found)

    def test_never_greater_at_a_greater_reach(self):
        seen = 0
        for rules, reach in samples(103) + SPENDING:
            if len(oracle_calm.scenes(rules, reach + 1)) <= 70 and reach < 2:
                one, other = least_total(rules, reach), least_total(rules, reach + 1)
                self.assertTrue(one is None or (other is not None and other <= one))
                seen += one is not None
        self.assertTrue(seen > 5, seen)

    def test_too_soon(self):
        seen = 0
        for rules in FULL + oracle.many_full(105, 30):
            for reach in range(3):
                if (0, "") in oracle.winning(rules, reach):
                    continue
                for call, told in ((least_total, ()), (forced_cells, (1,)), (forced_cells, (8,))):
                    with self.assertRaises(TooSoon) as caught:
                        call(rules, reach, *told)
                    self.assertEqual(caught.exception.paper[0], "baffle")
                    self.assertTrue(oracle.lag_holds(rules, reach, caught.exception.paper))
                    seen += 1
        self.assertTrue(seen > 60, seen)


class ForcedTest(unittest.TestCase):
    def test_cell_by_cell(self):
        seen = {True: 0, False: 0}
        for rules, reach in samples(106) + SPENDING:
            total = oracle_calm.least_total(rules, reach)
            for number in NUMBERS:
                cells = forced_cells(rules, reach, number)
                told = total is None or total >= number
                self.assertEqual(cells is not None, told)
                seen[told] += 1
                self.assertTrue(odd.same_kind(forced_cells(rules, reach, number), cells))
                if told:
                    self.assertTrue(oracle_calm.forced_holds(rules, reach, number, cells))
                    self.assertIs(forced_holds(rules, reach, number, cells), True)
        self.assertTrue(min(seen.values()) > 30, seen)

    def test_cells_put_together_otherwise(self):
        seen = {True: 0, False: 0}
        for rules, reach in samples(108, 8, 2) + SPENDING:
            for most in (1, 3):
                for shift in (0, 9):
                    cells = oracle_calm.widest_forced(rules, reach, most, shift)
                    for number in (1, 2, 3, 4):
                        told = oracle_calm.forced_holds(rules, reach, number, cells)
                        self.assertIs(forced_holds(rules, reach, number, cells), told)
                        seen[told] += 1
        self.assertTrue(min(seen.values()) > 30, seen)

    def test_at_other_numbers_and_reaches(self):
        seen = {True: 0, False: 0}
        for rules, reach in samples(110, 8, 2):
            for number in (1, 3):
                cells = forced_cells(rules, reach, number)
                for other in range(3):
                    for wanted in (1, 2, 3, 4):
                        told = oracle_calm.forced_holds(rules, other, wanted, cells)
                        self.assertIs(forced_holds(rules, other, wanted, cells), told)
                        seen[told] += 1
        self.assertTrue(min(seen.values()) > 10, seen)

    def test_without_a_plan(self):
        seen = 0
        for rules in FULL + oracle.many_full(111, 30):
            for reach in range(2):
                if (0, "") in oracle.winning(rules, reach) or len(oracle_calm.scenes(rules, reach)) > 25:
                    continue
                cells = oracle_calm.widest_forced(rules, reach, 2)
                self.assertIs(forced_holds(rules, reach, 2, cells), True)
                for thing in (*odd.VALUES, *odd.variants(cells, seen, 30)):
                    told = oracle_calm.forced_holds(rules, reach, 2, thing)
                    self.assertIs(forced_holds(rules, reach, 2, thing), told)
                seen += 1
        self.assertTrue(seen > 15, seen)

    def test_one_thing_otherwise(self):
        seen = {True: 0, False: 0}
        for at, (rules, reach) in enumerate(samples(112, 10, 2) + SPENDING):
            for cells in (forced_cells(rules, reach, 1), oracle_calm.widest_forced(rules, reach, 2, 1)):
                for thing in odd.variants(cells, at, 80):
                    told = oracle_calm.forced_holds(rules, reach, 1, thing)
                    seen[told] += 1
                    self.assertIs(forced_holds(rules, reach, 1, thing), told, thing)
        self.assertTrue(min(seen.values()) > 60, seen)

    def test_kinds_of_parts(self):
        cells = ((0, "", "", 1, 1, "a"), (0, "a", "a", 1, 0, "b"), (0, "a", "b", 1, 0, "a"))
        self.assertIs(forced_holds(oracle.ONCE, 1, 1, cells), True)
        self.assertIs(forced_holds(oracle.ONCE, 1, 2, cells), False)
        greater = ((0, "", "", 1, 10 ** 39, "a"), (0, "a", "a", 1, 5, "b"), (0, "a", "b", 1, 10 ** 38, "a"))
        self.assertIs(forced_holds(oracle.ONCE, 1, 1, greater), True)
        # State 1 goes on with an a alone: to a b there is no answer, and nothing is asked.
        for cell, holds in (((1, "", "", 7, 0, "b"), True), ((1, "", "", 1, 10 ** 39, "b"), True), ((1, "", "", 1, 3, "a"), False),
                            ((1, "", "", 0, 0, "b"), False), ((1, "", "", -1, 0, "b"), False), ((1, "", "", 1, -1, "b"), False),
                            ((1, "", "", True, 0, "b"), False), ((1, "", "", 1, False, "b"), False),
                            ((True, "", "", 1, 0, "b"), False), ((4, "", "", 1, 0, "b"), False), ((1, "", "", 1, 0, ""), False),
                            ((1, "", "", 1, 0, "c"), False), ((1, "", "", 1, 0, "bb"), False), ((1, "", "", 1, 0, None), False),
                            ((1, "", "", 1, 0), False), ((1, "", "", 1, 0, "b", 0), False), ([1, "", "", 1, 0, "b"], False),
                            ((1, "b", "a", 1, 0, "b"), False), ((1, "aa", "aa", 1, 0, "b"), False)):
            thing = cells + (cell,)
            self.assertIs(forced_holds(oracle.ONCE, 1, 1, thing), holds, cell)
            self.assertIs(oracle_calm.forced_holds(oracle.ONCE, 1, 1, thing), holds, cell)
        for wrong in (list(cells), cells[1:], cells[:2], cells[::-1], cells + cells[2:], ((0, "", "", 1, 0, "a"),) + cells[1:],
                      ((0, "", "", 2, 1, "a"),) + cells[1:], cells[:1] + ((0, "a", "a", 1, 0, "a"),) + cells[2:],
                      cells[:1] + ((0, "a", "a", 1, 1, "b"),) + cells[2:],
                      cells[:2] + ((0, "a", "a", 1, 1, "b"),) + cells[2:], ()):
            self.assertIs(forced_holds(oracle.ONCE, 1, 1, wrong), False, wrong)
        # Two cells of one scene with unlike wanted numbers may stand side by side.
        two = ((0, "", "", 1, 1, "a"), (0, "", "", 2, 0, "a"), *cells[1:])
        self.assertIs(forced_holds(oracle.ONCE, 1, 1, two), False)
        two = cells[:2] + ((0, "a", "b", 1, 0, "a"), (1, "", "", 1, 0, "b"), (1, "", "", 2, 0, "b"))
        self.assertIs(forced_holds(oracle.ONCE, 1, 1, two), True)

    def test_any_values(self):
        for rules in FULL:
            for thing in odd.VALUES + ((odd.VALUES,), ((0, "", "", 1, 0, odd.DEEP),), ((0, odd.DEEP, "", 1, 0, "a"),),
                                       ((0, "", "", 1, {}, "a"),), ((0, "", "", [1], 0, "a"),), ((0, "", "", 1, 0, "a"), None)):
                self.assertIs(forced_holds(rules, 1, 1, thing), False)


class CallsTest(unittest.TestCase):
    def test_mute_ahead_of_all_else(self):
        for rules in NOT_FULL:
            for call, told in ((least_total, (0,)), (least_total, (None,)), (forced_cells, (1, 1)), (forced_cells, (None, None)),
                               (forced_holds, (1, 1, ())), (forced_holds, (None, None, [{}]))):
                with self.assertRaises(Mute) as caught:
                    call(rules, *told)
                self.assertEqual(caught.exception.speech, oracle.first_mute(rules))

    def test_by_name(self):
        self.assertEqual(least_total(reach=1, rules=oracle.ONCE), 1)
        cells = forced_cells(number=1, reach=1, rules=oracle.ONCE)
        self.assertIs(forced_holds(thing=cells, number=1, reach=1, rules=oracle.ONCE), True)
        self.assertIsNone(forced_cells(number=2, reach=1, rules=oracle.ONCE))

    def test_returned_rules(self):
        self.assertEqual(least_total(oracle.ONCE | oracle.ONCE, 1), 1)
        self.assertEqual(least_total(oracle.ANY & oracle.ONCE.least(), 2), 1)
        self.assertEqual(least_total(oracle.ECHO, 0), 0)
        self.assertEqual(Fraction(*least_mean(oracle.ECHO, 0)), 0)


if __name__ == "__main__":
    unittest.main()
