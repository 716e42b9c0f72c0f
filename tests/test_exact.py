"""Inner states, alike ones, papers for a size, papers for any size."""

import unittest

from pacehouse.exact import (
    any_size_holds, are_alike, can_tell, first_wrong, inner_states, judge_any_size, judge_size, least_size, size_holds)
from pacehouse.rules import Rules
from tests import odd, oracle, oracle_windows
from tests.test_windows import RING, SIZES, SMALL


def gap(many):
    """Rules by which at least so many x stand between two y: a watcher must see both."""
    rows = [(("a", "x", 0), ("a", "y", 1))] + [(("a", "x", (at + 1) if at < many else 0),) for at in range(1, many + 1)]
    return Rules("a", "xy", tuple(rows))


GAPS = (gap(1), gap(2), gap(3), gap(4))
KNOWN = ((oracle.ANY, 1), (oracle.ECHO, 1), (oracle.SILENT, 1), (oracle.NEXT, 2), (oracle.FIRST, None), (oracle.END, 2),
         (oracle.LATER, 3), (GAPS[0], 2), (GAPS[1], 3), (GAPS[2], 4), (GAPS[3], 5))


def samples(seed, count):
    return [rules for rules in oracle.NAMED + (RING,) + GAPS if len(rules.heard) < 3] + oracle.many_rules(
        seed, count, SMALL)


class InnerTest(unittest.TestCase):
    def test_beside_all_short_pairs(self):
        led_back = not_led_back = left = 0
        for rules in samples(211, 40):
            told = inner_states(rules)
            met = {rules.led(0, *pair) for pair in oracle.right_pairs(rules, len(rules)) if pair[0]}
            self.assertTrue(odd.same_kind(told, tuple(sorted(met))))
            self.assertEqual(list(told), oracle_windows.inner(rules))
            led_back += 0 in told
            not_led_back += 0 not in told
            left += len(told) < len(rules) - 1
        self.assertTrue(led_back > 5 and not_led_back > 5 and left > 5)

    def test_nought_is_inner_only_if_led_back_to(self):
        self.assertEqual(inner_states(oracle.ECHO), (0,))
        self.assertEqual(inner_states(oracle.SILENT), ())
        self.assertEqual(inner_states(oracle.FIRST), (1, 2))
        self.assertEqual(inner_states(Rules("a", "x", ((("a", "x", 1),), ()))), (1,))
        self.assertEqual(inner_states(Rules("a", "x", ((("a", "x", 1),), (("a", "x", 0),), (("a", "x", 0),)))), (0, 1))
        # A state to which nothing leads from 0 leads back to 0: 0 is not inner by that.
        self.assertEqual(inner_states(Rules("a", "x", ((("a", "x", 1),), (), (("a", "x", 0),)))), (1,))

    def test_alike_beside_all_short_pairs(self):
        seen = {True: 0, False: 0}
        for rules in samples(212, 40):
            if len(rules) > 5:
                continue
            apart = oracle_windows.unlike(rules)
            for state in range(len(rules)):
                for other in range(len(rules)):
                    told = are_alike(rules, state, other)
                    self.assertIs(told, (state, other) not in apart)
                    self.assertIs(told, oracle_windows.are_alike_up_to(rules, state, other, 4))
                    self.assertIs(are_alike(rules, other, state), told)
                    seen[told] += 1
        self.assertTrue(min(seen.values()) > 50, seen)


class SizesTest(unittest.TestCase):
    def test_known_sizes(self):
        for rules, size in KNOWN:
            self.assertEqual(least_size(rules), size)

    def test_beside_all_short_pairs(self):
        seen = {True: 0, False: 0}
        for rules in samples(213, 40):
            told = str(rules)
            most = 5 if len(rules.heard) * len(rules.written) < 4 else 4
            for size in SIZES:
                pair = first_wrong(rules, size)
                self.assertEqual(can_tell(rules, size), oracle_windows.tells(rules, size))
                self.assertIs(can_tell(rules, size), pair is None)
                seen[pair is None] += 1
                short = oracle_windows.first_wrong(rules, size, most)
                if pair is None or len(pair[0]) > most:
                    self.assertIsNone(short)
                else:
                    self.assertEqual(pair, short)
                self.assertTrue(odd.same_kind(first_wrong(rules, size), pair))
            self.assertEqual(str(rules), told)
        self.assertTrue(min(seen.values()) > 60, seen)

    def test_long_first_wrong_pairs(self):
        """Wrong pairs that are longer than the short ones: with one letter to hear, and few to write."""
        long = 0
        for rules in list(GAPS) + oracle.many_rules(214, 60, (("a", "xy"), ("ab", "x"))):
            for size in SIZES[1:]:
                pair = first_wrong(rules, size)
                short = oracle_windows.first_wrong(rules, size, 8) if pair and len(pair[0]) <= 8 else None
                self.assertTrue(pair == short or pair is None or len(pair[0]) > 8)
                long += pair is not None and len(pair[0]) > 5
                if pair:
                    self.assertTrue(oracle_windows.is_let_by(rules, size, *pair) and not rules.is_right(*pair))
        self.assertTrue(long > 10, long)

    def test_papers_for_a_size(self):
        seen = {"tells": 0, "wrong": 0}
        for rules in samples(215, 60):
            for size in SIZES:
                paper = judge_size(rules, size)
                seen[paper[0]] += 1
                self.assertEqual(paper[0] == "tells", can_tell(rules, size))
                self.assertTrue(oracle_windows.size_holds(rules, size, paper))
                self.assertIs(size_holds(rules, size, paper), True)
                if paper[0] == "wrong":
                    self.assertEqual(paper[1:], first_wrong(rules, size))
                self.assertTrue(odd.same_kind(judge_size(rules, size), paper))
        self.assertTrue(min(seen.values()) > 60, seen)

    def test_papers_for_any_size(self):
        found = set()
        for rules in samples(216, 80):
            paper = judge_any_size(rules)
            size = oracle_windows.least_size(rules)
            self.assertTrue(odd.same_kind(least_size(rules), size))
            self.assertEqual(paper[0], "never" if size is None else "tells")
            self.assertTrue(size is None or paper[1] == size)
            self.assertTrue(oracle_windows.any_size_holds(rules, paper))
            self.assertIs(any_size_holds(rules, paper), True)
            self.assertTrue(odd.same_kind(judge_any_size(rules), paper))
            for many in SIZES:
                self.assertIs(can_tell(rules, many), size is not None and size <= many)
            found.add(size)
        self.assertTrue(found >= {None, 1, 2, 3, 4, 5}, found)

    def test_what_a_loop_keeps_from_any_watcher(self):
        """One, any number of loops and tail are right; with other in the place of one they are wrong, and let by."""
        seen = 0
        for rules in samples(217, 80):
            paper = judge_any_size(rules)
            if paper[0] == "never":
                _, one, other, loop, tail = paper
                self.assertTrue(all(len(pair[0]) > 0 and len(pair[0]) == len(pair[1]) for pair in paper[1:]))
                for many in range(4):
                    whole = [one[at] + loop[at] * many + tail[at] for at in (0, 1)]
                    self.assertIs(rules.is_right(*whole), True)
                    whole = [other[at] + loop[at] * many + tail[at] for at in (0, 1)]
                    self.assertIs(rules.is_right(*whole), False)
                    for size in range(1, min(len(loop[0]) * many + 1, 6) + 1):
                        # What stands behind the first window's signs is seen behind one, too.
                        self.assertIs(oracle_windows.is_let_by(rules, size, *whole), True)
                seen += 1
        self.assertTrue(seen > 10, seen)


class HoldsTest(unittest.TestCase):
    def test_ranks_put_together_otherwise(self):
        seen = 0
        for rules in samples(221, 60):
            for size in SIZES:
                ranks = oracle_windows.widest_ranks(rules, size)
                self.assertEqual(ranks is not None, can_tell(rules, size))
                if ranks is not None:
                    self.assertIs(size_holds(rules, size, ("tells", ranks)), True)
                    self.assertIs(any_size_holds(rules, ("tells", size, ranks)), True)
                    for other in SIZES:
                        told = oracle_windows.ranks_hold(rules, other, ranks)
                        self.assertIs(size_holds(rules, other, ("tells", ranks)), told)
                        self.assertIs(any_size_holds(rules, ("tells", other, ranks)), told)
                    seen += ranks != ()
        self.assertTrue(seen > 40, seen)

    def test_wrong_pairs_that_are_not_the_first(self):
        seen = {True: 0, False: 0}
        for rules in samples(222, 15):
            for size in (1, 2, 3):
                for pair in oracle.pairs(rules.heard, rules.written, 4):
                    told = oracle_windows.size_holds(rules, size, ("wrong", *pair))
                    self.assertIs(size_holds(rules, size, ("wrong", *pair)), told)
                    seen[told] += 1
        self.assertTrue(min(seen.values()) > 200, seen)

    def test_papers_for_other_sizes(self):
        for rules in samples(223, 20):
            papers = [judge_size(rules, size) for size in SIZES]
            for paper in papers:
                for size in SIZES:
                    self.assertIs(size_holds(rules, size, paper), oracle_windows.size_holds(rules, size, paper))
                self.assertIs(any_size_holds(rules, paper), False)
            self.assertIs(size_holds(rules, 1, judge_any_size(rules)), False)

    def test_greater_sizes(self):
        paper = judge_any_size(oracle.NEXT)
        self.assertEqual(paper[:2], ("tells", 2))
        for size, holds in ((2, True), (3, True), (10 ** 39, True), (1, False), (0, False), (-3, False), (True, False),
                            (None, False), ("2", False), ((2,), False)):
            self.assertIs(any_size_holds(oracle.NEXT, ("tells", size, paper[2])), holds, size)
        self.assertIs(any_size_holds(oracle.NEXT, ("tells", 5, ((1, 2, 3),))), True)
        self.assertIs(any_size_holds(oracle.NEXT, ("tells", 5, ((1, 2, 4),))), False)
        self.assertIs(any_size_holds(oracle.ANY, ("tells", 1, ())), True)
        self.assertIs(any_size_holds(oracle.ANY, ("tells", 0, ())), False)
        self.assertIs(any_size_holds(oracle.ANY, ("tells", 1, [])), False)

    def test_parts_of_ranks(self):
        for ranks, holds in ((((1, 2, 0),), True), (((2, 1, 0),), False), (((1, 2, -1),), False), (((1, 2, 1),), False),
                             (((1, 2, False),), False), (((True, 2, 0),), False), (((1, 2, 0), (1, 2, 0)), False), ((), False),
                             (((1, 1, 0), (1, 2, 0)), False), (((0, 1, 0), (1, 2, 0)), False), ([(1, 2, 0)], False),
                             (([1, 2, 0],), False), (((1, 2),), False), (((1, 2, 0, 0),), False), (((1, 2, None),), False),
                             (((1, 5, 0),), False), ((None,), False), (None, False), ((1, 2, 0), False)):
            self.assertIs(size_holds(oracle.NEXT, 2, ("tells", ranks)), holds, ranks)
            self.assertIs(oracle_windows.size_holds(oracle.NEXT, 2, ("tells", ranks)), holds, ranks)
        ranks = judge_size(GAPS[1], 3)[1]
        self.assertTrue(oracle_windows.ranks_hold(GAPS[1], 3, ranks))
        for at in range(len(ranks)):
            self.assertIs(size_holds(GAPS[1], 3, ("tells", ranks[:at] + ranks[at + 1:])), False)
        self.assertIs(size_holds(GAPS[1], 3, ("tells", ranks[::-1])), False)

    def test_kinds_of_parts_of_ranks(self):
        rules = Rules("a", "xy", ((("a", "x", 1),), (("a", "y", 0),)))
        self.assertIs(size_holds(rules, 2, ("tells", ((0, 1, 0),))), True)
        for row in ((0, True, 0), (False, 1, 0), (0, 1, False), (0, [1], 0), ([0], 1, 0), (0, 1, [0]), (0, {}, 0), (0, "1", 0),
                    (0, 10 ** 39, 0), (0, (1,), 0), (0, None, 0), (0, -1, 0)):
            self.assertIs(size_holds(rules, 2, ("tells", (row,))), False, row)
            self.assertIs(any_size_holds(rules, ("tells", 2, (row,))), False, row)

    def test_the_same_states_twice(self):
        """As many rows as there are unlike inner states, two by two, but one of these twice, with other numbers."""
        seen = 0
        for rules in samples(226, 30):
            ranks = oracle_windows.widest_ranks(rules, 6) or ()
            for at in range(1, len(ranks)):
                for one in (ranks[:at] + ranks[at + 1:], ranks[:at - 1] + ranks[at:]):
                    for number in range(5):
                        twice = tuple(sorted({*one, (*one[0][:2], number)}))
                        self.assertIs(size_holds(rules, 6, ("tells", twice)), False)
                        seen += len(twice) == len(ranks)
        self.assertTrue(seen > 20, seen)

    def test_parts_of_never(self):
        one, other, loop, tail = ("a", "a"), ("a", "b"), ("a", "a"), ("b", "a")
        self.assertIs(any_size_holds(oracle.FIRST, ("never", one, other, loop, tail)), True)
        for pairs, holds in (
                ((other, one, loop, tail), False), ((other, one, loop, ("b", "b")), True), ((one, one, loop, tail), False),
                ((("", ""), other, loop, tail), False), ((one, ("", ""), loop, tail), False), ((one, other, ("", ""), tail), False),
                ((one, other, loop, ("", "")), False), ((one, other, loop, ("a", "a")), False), ((one, other, loop, ("ab", "aa")), True),
                ((("b", "a"), ("b", "b"), ("aa", "aa"), tail), True), ((("aa", "ab"), other, loop, tail), False),
                ((one, ("aa", "bb"), loop, tail), False), ((one, other, ("a", "b"), tail), False), ((one, other, tail, tail), False),
                ((one, other, ("b", "b"), tail), False), ((other, one, tail, ("b", "b")), False),
                ((one, other, loop, ("b", "ab")), False), ((one, other, loop, ("bb", "a")), False), ((one, other, ("x", "x"), tail), False),
                ((one, other, loop), False), ((one, other, loop, tail, tail), False), ((list(one), other, loop, tail), False),
                ((one, other, loop, ["b", "a"]), False), ((one, other, (None, None), tail), False), ((None, other, loop, tail), False),
                ((one, other, loop, ("b", ("a",))), False), ((one, other, loop, "ba"), False), ((("ba", "ba"), other, loop, tail), False)):
            self.assertIs(any_size_holds(oracle.FIRST, ("never", *pairs)), holds, pairs)
            self.assertIs(oracle_windows.any_size_holds(oracle.FIRST, ("never", *pairs)), holds, pairs)
        self.assertIs(any_size_holds(oracle.FIRST, ["never", one, other, loop, tail]), False)
        # The first state is one of the two here, which no pair of one sign or more leads back to.
        self.assertIs(any_size_holds(RING, ("never", ("aaa", "xxx"), ("aa", "xx"), ("aaa", "xxx"), ("b", "y"))), True)

    def test_one_thing_otherwise(self):
        seen = {True: 0, False: 0}
        for at, rules in enumerate(samples(224, 25)):
            for size in (1, 2, 4):
                papers = [judge_size(rules, size), judge_any_size(rules), ("tells", oracle_windows.widest_ranks(rules, size))]
                for paper in papers:
                    for thing in odd.variants(paper, at, 25):
                        told = oracle_windows.size_holds(rules, size, thing)
                        self.assertIs(size_holds(rules, size, thing), told, thing)
                        seen[told] += 1
                        told = oracle_windows.any_size_holds(rules, thing)
                        self.assertIs(any_size_holds(rules, thing), told, thing)
                        seen[told] += 1
        self.assertTrue(min(seen.values()) > 60, seen)

    def test_any_values(self):
        more = (("tells", ()), ("tells", None), ("tells", 2, None), ("tells", (), ()), ("wrong", None, None), ("wrong", "a"),
                ("wrong", "ab", "a"), ("wrong", {}, []), ("tells", odd.DEEP), ("tells", 2, odd.DEEP), ("wrong", odd.DEEP, "a"),
                ("never", None, None, None, None), ("never", odd.DEEP, ("a", "a"), ("a", "a"), ("a", "a")),
                ("tells", 2, (({}, [], ()),)), ("tells", ((odd.DEEP, 1, 2),)), (["tells"], ()), ("wrong", "", ""))
        for rules in samples(225, 3):
            for thing in odd.VALUES + more:
                self.assertIs(any_size_holds(rules, thing), oracle_windows.any_size_holds(rules, thing))
                for size in SIZES:
                    self.assertIs(size_holds(rules, size, thing), oracle_windows.size_holds(rules, size, thing))


class CallsTest(unittest.TestCase):
    def test_by_name(self):
        told = str(oracle.NEXT)
        self.assertEqual(inner_states(rules=oracle.NEXT), (1, 2))
        self.assertIs(are_alike(other=2, state=1, rules=oracle.NEXT), False)
        self.assertIs(can_tell(size=1, rules=oracle.NEXT), False)
        self.assertIs(can_tell(size=2, rules=oracle.NEXT), True)
        self.assertEqual(judge_size(size=1, rules=oracle.NEXT), ("wrong", "ab", "aa"))
        self.assertIs(size_holds(thing=("wrong", "ba", "bb"), size=1, rules=oracle.NEXT), True)
        self.assertEqual(first_wrong(size=1, rules=oracle.NEXT), ("ab", "aa"))
        self.assertEqual(least_size(rules=oracle.NEXT), 2)
        self.assertIs(any_size_holds(thing=judge_any_size(rules=oracle.NEXT), rules=oracle.NEXT), True)
        self.assertEqual(str(oracle.NEXT), told)

    def test_returned_rules(self):
        self.assertEqual(least_size(oracle.NEXT & oracle.FIRST.least()), least_size(oracle.NEXT.least() & oracle.FIRST))
        self.assertIs(can_tell(oracle.NEXT.flipped(), 2), True)


if __name__ == "__main__":
    unittest.main()
