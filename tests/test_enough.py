"""How many exchanges are enough for all that other rules let by."""

import unittest

from pacehouse.enough import enough_holds, first_need, is_enough, judge_enough, least_enough, worst_needs
from pacehouse.errors import Mute, OtherLetters
from pacehouse.exchanges import need
from pacehouse.pairs import is_within
from pacehouse.rules import Rules
from pacehouse.windows import let_by
from tests import odd, oracle, oracle_mending
from tests.test_shown import NOT_FULL

# Other rules: without moves, with pairs up to two signs alone, with letters that the rules do not write.
OTHERS = (
    Rules("ab", "b", ((),)),
    Rules("ab", "ab", ((("a", "b", 1), ("b", "a", 1)), (("a", "a", 2), ("a", "b", 2)), ())),
    Rules("ab", "qz", ((("a", "q", 1), ("b", "z", 0)), (("a", "z", 0),), (("b", "q", 1),))),
    oracle.LATE, oracle.NEXT, oracle.ANY, oracle.FIRST)


def couples(seed, count):
    """Full rules with other rules over the same heard letters."""
    found = [(rules, other) for rules in oracle_mending.FULL for other in OTHERS]
    every = [rules for rules in oracle_mending.many_full(seed, count) if rules.heard == "ab"]
    return found + list(zip(every, oracle_mending.many_other(seed + 1, len(every)))) + [
        (rules, let_by(rules, size)) for rules in every[:6] for size in (1, 2)]


def worst_of(rules, other, most):
    """For each length the greatest need of the right pairs of the other rules, from all of them."""
    worst = [None] * (most + 1)
    for pair in oracle.right_pairs(other, most):
        told = oracle_mending.best_mended(rules, *pair)[0]
        worst[len(pair[0])] = max(told, worst[len(pair[0])] or 0)
    return tuple(worst)


class EnoughTest(unittest.TestCase):
    def test_first_pairs_beside_all_short_pairs(self):
        seen = {True: 0, False: 0}
        for rules, other in couples(321, 20):
            told = str(rules), str(other)
            needs = [(oracle_mending.best_mended(rules, *pair)[0], pair)
                     for pair in oracle_mending.right_pairs_in_order(other, 4)]
            for number in (0, 1, 2, 3):
                short = next((pair for least, pair in needs if least > number), None)
                pair = first_need(rules, other, number)
                if short is not None or (pair is not None and len(pair[0]) <= 4):
                    self.assertEqual(pair, short)
                self.assertIs(is_enough(rules, other, number), pair is None)
                if pair is not None:
                    self.assertTrue(other.is_right(*pair) and need(rules, *pair) > number)
                self.assertTrue(odd.same_kind(first_need(rules, other, number), pair))
                seen[pair is None] += 1
            self.assertIs(is_enough(rules, other, 0), is_within_any_letters(rules, other))
            self.assertEqual((str(rules), str(other)), told)
        self.assertTrue(min(seen.values()) > 40, seen)

    def test_least_enough(self):
        found = set()
        for rules, other in couples(323, 20):
            enough = [is_enough(rules, other, number) for number in range(5)]
            self.assertEqual(enough, sorted(enough))
            for most in range(5):
                told = enough.index(True) if True in enough[:most + 1] else None
                self.assertTrue(odd.same_kind(least_enough(rules, other, most), told))
            found.add(least_enough(rules, other, 3))
        self.assertTrue(found >= {None, 0, 1, 2}, found)

    def test_worst_needs(self):
        none = greatest = 0
        for rules, other in couples(325, 15):
            told = worst_of(rules, other, 4)
            self.assertTrue(odd.same_kind(worst_needs(rules, other, 4), told))
            self.assertTrue(odd.same_kind(worst_needs(rules, other, 0), (0,)))
            self.assertEqual(worst_needs(rules, other, 12)[:5], told)
            least = least_enough(rules, other, 4)
            worst = [need for need in worst_needs(rules, other, 8) if need is not None]
            self.assertTrue(least is None or max(worst) <= least)
            none += None in told
            greatest = max([greatest, *worst])
        self.assertTrue(none > 5 and greatest > 4, (none, greatest))

    def test_longer_pairs(self):
        """With one letter to hear there are few pairs: lengths up to 9 beside all of them."""
        every = oracle.many_rules(327, 40, (("a", "xy"),), most=4)
        for rules in [rules for rules in every if oracle.first_mute(rules) is None][:12]:
            for other in oracle.many_rules(328, 4, (("a", "xy"), ("a", "yz")), most=4):
                told = worst_of(rules, other, 9)
                self.assertEqual(worst_needs(rules, other, 9), told)
                for number in (0, 1, 2):
                    if max(worst or 0 for worst in told) > number:
                        length = next(at for at, worst in enumerate(told) if (worst or 0) > number)
                        pair = first_need(rules, other, number)
                        self.assertEqual(pair, min(pair for pair in oracle.right_pairs(other, length) if len(
                            pair[0]) == length and oracle_mending.best_mended(rules, *pair)[0] > number))

    def test_known(self):
        self.assertEqual(worst_needs(oracle.ECHO, oracle.ANY, 12), tuple(range(13)))
        self.assertIsNone(least_enough(oracle.ECHO, oracle.ANY, 8))
        self.assertEqual(first_need(oracle.ECHO, oracle.ANY, 8), ("a" * 9, "b" * 9))
        self.assertEqual(least_enough(oracle.ANY, oracle.ECHO, 0), 0)
        self.assertEqual(worst_needs(oracle.ANY, OTHERS[0], 2), (0, None, None))
        self.assertEqual(worst_needs(oracle.ECHO, OTHERS[1], 4), (0, 1, 2, None, None))
        self.assertEqual([least_enough(oracle.ECHO, OTHERS[1], most) for most in (0, 1, 2, 8)], [None, None, 2, 2])
        self.assertEqual(first_need(oracle.ECHO, OTHERS[1], 1), ("aa", "bb"))
        # What a watcher of one sign lets by of FIRST is mended by any number or by none.
        self.assertIs(is_enough(oracle.NEXT, let_by(oracle.NEXT, 2), 0), True)
        self.assertEqual(first_need(oracle.NEXT, let_by(oracle.NEXT, 1), 0), ("ab", "aa"))


def is_within_any_letters(rules, other):
    """Whether each right pair of the other rules is right by the rules, by rules with the letters of both."""
    written = "".join(sorted({*rules.written, *other.written}))
    return is_within(Rules(other.heard, written, other.rows), Rules(rules.heard, written, rules.rows))


class PapersTest(unittest.TestCase):
    def test_cell_by_cell(self):
        seen = {"enough": 0, "needs": 0}
        for rules, other in couples(331, 25):
            for number in range(5):
                paper = judge_enough(rules, other, number)
                seen[paper[0]] += 1
                self.assertEqual(paper[0] == "enough", is_enough(rules, other, number))
                self.assertTrue(oracle_mending.enough_holds(rules, other, number, paper))
                self.assertIs(enough_holds(rules, other, number, paper), True)
                self.assertTrue(odd.same_kind(judge_enough(rules, other, number), paper))
        self.assertTrue(min(seen.values()) > 60, seen)

    def test_need_rows_are_those_of_pairs(self):
        """The row of each cell that a short pair leads to, from all ways to lead its speech on."""
        for rules, other in couples(333, 10):
            for number in (0, 2):
                paper = judge_enough(rules, other, number)
                if paper[0] == "enough":
                    for pair in oracle.right_pairs(other, 3):
                        cell = (other.led(0, *pair), oracle_mending.row_of(rules, *pair, number))
                        self.assertIn(cell, paper[1])

    def test_cells_put_together_otherwise(self):
        seen = 0
        for at, (rules, other) in enumerate(couples(335, 20)):
            for number in (0, 1, 3):
                cells = oracle_mending.widest_cells(rules, other, number, at)
                self.assertEqual(cells is not None, is_enough(rules, other, number))
                if cells is not None:
                    self.assertIs(enough_holds(rules, other, number, ("enough", cells)), True)
                    for most in (0, 1, 2, 3, 4):
                        told = oracle_mending.enough_holds(rules, other, most, ("enough", cells))
                        self.assertIs(enough_holds(rules, other, most, ("enough", cells)), told)
                    seen += len(cells) > len(judge_enough(rules, other, number)[1])
        self.assertTrue(seen > 30, seen)

    def test_order_of_cells(self):
        """A row with None stands behind those with numbers in that place."""
        rules = Rules("a", "xy", ((("a", "x", 0), ("a", "y", 1)), (("a", "x", 0),)))
        other = Rules("a", "xy", ((("a", "x", 0), ("a", "y", 0)),))
        cells = judge_enough(rules, other, 1)
        self.assertEqual(cells[0], "needs")
        other = Rules("a", "x", ((("a", "x", 0),),))
        self.assertEqual(judge_enough(rules, other, 1), ("enough", ((0, (0, 1)), (0, (0, None)))))
        self.assertIs(enough_holds(rules, other, 1, ("enough", ((0, (0, None)), (0, (0, 1))))), False)
        self.assertIs(enough_holds(rules, other, 2, ("enough", ((0, (0, 1)), (0, (0, None))))), True)
        self.assertEqual(judge_enough(rules, other, 0), ("enough", ((0, (0, None)),)))
        self.assertIs(enough_holds(rules, other, 1, ("enough", ((0, (0, 1)), (0, (0, None)), (0, (1, 1))))), False)
        self.assertIs(enough_holds(rules, other, 1, ("enough", ((0, (0, 1)), (0, (0, None)), (0, (1, 0))))), True)
        self.assertIs(enough_holds(rules, other, 1, ("enough", ((0, (0, 0)), (0, (0, 1)), (0, (0, None))))), True)

    def test_any_pair_that_needs_more(self):
        seen = {True: 0, False: 0}
        for rules, other in couples(337, 6):
            for number in (0, 1, 2):
                for pair in oracle.pairs("ab", other.written[:2], 3):
                    told = oracle_mending.enough_holds(rules, other, number, ("needs", *pair))
                    self.assertIs(enough_holds(rules, other, number, ("needs", *pair)), told)
                    seen[told] += 1
        self.assertTrue(min(seen.values()) > 200, seen)
        self.assertIs(enough_holds(oracle.ECHO, oracle.ANY, 8, ("needs", "ab" * 30, "ba" * 30)), True)
        self.assertIs(enough_holds(oracle.ECHO, oracle.ANY, 8, ("needs", "ab" * 30, "ab" * 30)), False)
        self.assertIs(enough_holds(oracle.ECHO, oracle.ANY, 0, ("needs", "ab", "qq")), False)

    def test_parts_of_cells(self):
        self.assertIs(enough_holds(oracle.ANY, oracle.ECHO, 0, ("enough", ((0, (0,)),))), True)
        self.assertIs(enough_holds(oracle.ANY, oracle.ECHO, 1, ("enough", ((0, (0,)), (0, (1,))))), True)
        for cells in (((0, (1,)),), (), ((0, (0,)), (0, (0,))), ((0, (0,)), (0, (None,))), ((False, (0,)),), ((0, (False,)),),
                      ([0, (0,)],), ((0, [0]),), [(0, (0,))], ((0, (0, 0)),), ((0, ()),), ((0,),), ((0, (0,), 0),), (None,), None,
                      ((0, (0,)), (1, (0,))), ((0, (0,)), (-1, (0,))), ((0, (0,)), (0, (2,))), ((0, (0,)), (0, (-1,))),
                      ((0, (1,)), (0, (0,))), ((0, ("0",)),), ((0, None),)):
            self.assertIs(enough_holds(oracle.ANY, oracle.ECHO, 1, ("enough", cells)), False, cells)
            self.assertIs(oracle_mending.enough_holds(oracle.ANY, oracle.ECHO, 1, ("enough", cells)), False, cells)

    def test_one_thing_otherwise(self):
        seen = {True: 0, False: 0}
        for at, (rules, other) in enumerate(couples(339, 8)):
            for number in (0, 2):
                papers = [judge_enough(rules, other, number)]
                cells = oracle_mending.widest_cells(rules, other, number, at, 4)
                papers += [("enough", cells)] if cells else []
                for paper in papers:
                    for thing in odd.variants(paper, at, 40):
                        told = oracle_mending.enough_holds(rules, other, number, thing)
                        self.assertIs(enough_holds(rules, other, number, thing), told, thing)
                        seen[told] += 1
        self.assertTrue(min(seen.values()) > 60, seen)

    def test_any_values(self):
        more = (("enough", ()), ("enough", None), ("enough", ((0, odd.DEEP),)), ("enough", ((odd.DEEP, (0,)),)), ("enough", odd.DEEP),
                ("enough", ((0, ({},)),)), ("enough", ((0, (0,)),), 0), ("needs", "a"), ("needs", None, "a"), ("needs", "a", ["a"]),
                ("needs", "a", "ab"), ("needs", {}, []), ("needs", odd.DEEP, "a"), ["enough", ((0, (0,)),)], (["needs"], "a", "b"))
        for rules, other in couples(341, 2)[:20]:
            for thing in odd.VALUES + more:
                told = oracle_mending.enough_holds(rules, other, 1, thing)
                self.assertIs(enough_holds(rules, other, 1, thing), told)


class CallsTest(unittest.TestCase):
    def asked(self, rules, other):
        return ((judge_enough, (rules, other, 0)), (enough_holds, (rules, other, 0, ())), (enough_holds, (rules, other, None, [{}])),
                (is_enough, (rules, other, 1)), (first_need, (rules, other, 2)), (least_enough, (rules, other, 3)),
                (worst_needs, (rules, other, 4)), (judge_enough, (rules, other, None)), (worst_needs, (rules, other, None)))

    def test_mute_ahead_of_other_letters(self):
        for rules in NOT_FULL:
            for other in (oracle.ANY, oracle.FAR, oracle.SILENT, rules):
                for call, told in self.asked(rules, other):
                    with self.assertRaises(Mute) as caught:
                        call(*told)
                    self.assertEqual(caught.exception.speech, oracle.first_mute(rules))

    def test_other_letters(self):
        for rules in oracle_mending.FULL:
            for other in (oracle.FAR, oracle.SILENT, Rules("b", "ab", ((("b", "a", 0),),)), Rules("ac", "ab", ((),))):
                for call, told in self.asked(rules, other):
                    with self.assertRaises(OtherLetters):
                        call(*told)

    def test_other_rules_of_any_kind(self):
        for rules in oracle_mending.FULL:
            for other in OTHERS:
                for call, told in self.asked(rules, other)[:2]:
                    call(*told)
        self.assertEqual(judge_enough(oracle.NEXT, OTHERS[0], 0), ("enough", ((0, (0, None, None)),)))
        self.assertEqual(worst_needs(oracle.NEXT, OTHERS[0], 3), (0, None, None, None))
        self.assertEqual(worst_needs(oracle.ECHO, OTHERS[2], 3), (0, 1, 2, 3))

    def test_by_name(self):
        told = str(oracle.ECHO), str(oracle.NEXT)
        paper = judge_enough(number=0, other=oracle.ECHO, rules=oracle.ANY)
        self.assertEqual(paper, ("enough", ((0, (0,)),)))
        self.assertIs(enough_holds(thing=paper, number=0, other=oracle.ECHO, rules=oracle.ANY), True)
        self.assertIs(is_enough(number=2, other=oracle.NEXT, rules=oracle.ECHO), False)
        self.assertEqual(first_need(number=0, other=oracle.NEXT, rules=oracle.ECHO), ("a", "b"))
        self.assertIsNone(least_enough(most=2, other=oracle.NEXT, rules=oracle.ECHO))
        self.assertEqual(worst_needs(length=3, other=oracle.ANY, rules=oracle.ECHO), (0, 1, 2, 3))
        self.assertEqual((str(oracle.ECHO), str(oracle.NEXT)), told)


if __name__ == "__main__":
    unittest.main()
