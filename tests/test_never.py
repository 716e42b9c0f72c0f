"""Blocks and chains: whether some lag has a plan."""

import unittest

from pacehouse.classes import class_of, long_classes
from pacehouse.errors import Mute
from pacehouse.lateplans import least_lag
from pacehouse.never import judge_never, never_holds, some_lag
from pacehouse.rules import Rules
from tests import odd, oracle

FULL = [rules for rules in oracle.NAMED if oracle.first_mute(rules) is None]


def samples(seed, count):
    found = [rules for rules in FULL + oracle.many_full(seed, count) if len(oracle.all_classes(rules)) <= 40]
    assert len(found) > count // 2
    return found


class NeverTest(unittest.TestCase):
    def test_papers_row_by_row(self):
        seen = {"never": 0, "ever": 0}
        for rules in samples(71, 90):
            told = str(rules)
            paper = judge_never(rules)
            seen[paper[0]] += 1
            self.assertTrue(oracle.never_holds(rules, paper))
            self.assertIs(never_holds(rules, paper), True)
            self.assertIs(some_lag(rules), paper[0] == "ever")
            kept = oracle.kept_places(rules)
            self.assertEqual(paper[0] == "ever", all((0, told) in kept for told in oracle.long_classes(rules)))
            self.assertTrue(odd.same_kind(judge_never(rules), paper))
            self.assertEqual(str(rules), told)
        self.assertTrue(min(seen.values()) > 6, seen)

    def test_beside_lags(self):
        for rules in samples(72, 60):
            lag = least_lag(rules, 3)
            if lag is not None:
                self.assertIs(some_lag(rules), True)
            if not some_lag(rules):
                self.assertIsNone(least_lag(rules, 4))
        self.assertIs(some_lag(oracle.FAR), False)
        self.assertIs(some_lag(oracle.LATER), True)
        self.assertIs(some_lag(oracle.PROMISE), True)

    def test_never_both(self):
        for rules in samples(73, 40):
            self.assertIs(never_holds(rules, oracle.widest_blocks(rules)), some_lag(rules))

    def test_blocks_put_together_otherwise(self):
        # With a cell left out some blocks still hold: those whose cell nothing led to.
        for rules in samples(74, 25):
            thing = oracle.widest_blocks(rules)
            self.assertIs(never_holds(rules, thing), oracle.never_holds(rules, thing))
            for at in range(min(len(thing[1]), 30)):
                other = ("ever", thing[1][:at] + thing[1][at + 1:])
                self.assertIs(never_holds(rules, other), oracle.never_holds(rules, other))

    def test_chains_put_together_otherwise(self):
        pump, told = ("x", "x", ""), class_of(oracle.FAR, "x")
        rows = ((0, told, pump, 1), (1, told, ("bb", "b", ""), 0), (2, told, ("aa", "a", ""), 0))
        self.assertIs(never_holds(oracle.FAR, ("never", pump, rows)), True)
        free = ((), (), (), ())
        alike = ((0, 1, 2, 3), (), (), ())
        for row, holds in (((3, free, pump, 0), True), ((0, free, pump, 0), True), ((1, alike, pump, 0), True),
                           ((0, alike, pump, 5), False), ((0, alike, pump, 0), False), ((4, free, pump, 0), False),
                           ((3, free, ("a", "x", ""), 0), True), ((3, free, ("", "x", ""), 0), False),
                           ((3, ((0, 0), (), (), ()), pump, 0), False), ((3, ((1, 0), (), (), ()), pump, 0), False),
                           ((3, free[:3], pump, 0), False), ((3, free + ((),), pump, 0), False), ((3, (), pump, 0), False),
                           ((3, ((4,), (), (), ()), pump, 0), False), ((3, ([], (), (), ()), pump, 0), False),
                           ((3, ((True,), (), (), ()), pump, 0), False), ((3, free, pump, -1), False),
                           ((3, free, pump, False), False), ((3, free, list(pump), 0), False)):
            more = rows + (row,)
            try:
                more = tuple(sorted(more))
            except TypeError:
                pass
            self.assertIs(oracle.never_holds(oracle.FAR, ("never", pump, more)), holds, row)
            self.assertIs(never_holds(oracle.FAR, ("never", pump, more)), holds, row)

    def test_kinds_of_parts(self):
        pump, told = ("x", "x", ""), class_of(oracle.FAR, "x")
        rows = ((0, told, pump, 1), (1, told, ("bb", "b", ""), 0), (2, told, ("aa", "a", ""), 0))
        for thing in (["never", pump, rows], ("never", pump, list(rows)), ("never", list(pump), rows), ("never", pump, rows[1:]),
                      ("never", pump, rows[:2]), ("never", pump, rows[::-1]), ("never", pump, rows + rows[2:]),
                      ("never", ("x", "", ""), rows), ("never", ("x", "x", "a"), rows), ("ever", rows), ("ever", pump, rows),
                      ("never", pump), ("never", rows), ("never", pump, rows, 0), ("never", pump, ((0, told, pump, 0),) + rows[1:]),
                      ("never", pump, ((False, told, pump, 1),) + rows[1:]), ("never", pump, ((0, told, pump, True),) + rows[1:]),
                      ("never", pump, ((0, list(told), pump, 1),) + rows[1:]), ("never", pump, (list(rows[0]),) + rows[1:]),
                      ("never", pump, ((0, told, pump, 1), (0, told, pump, 2)) + rows[1:]), ("never", pump, ())):
            self.assertIs(never_holds(oracle.FAR, thing), False, thing)
        self.assertIs(never_holds(oracle.FAR, ("never", ("xx", "xxx", "x"), rows)), True)
        cells = judge_never(oracle.NEXT)[1]
        self.assertIs(never_holds(oracle.NEXT, ("ever", cells)), True)
        first, rest = cells[0], cells[1:]
        for other in (list(cells), rest, cells[::-1], cells + cells[-1:], (list(first),) + rest, ((False,) + first[1:],) + rest,
                      (first[:2] + (list(first[2]),),) + rest, (first[:2] + (first[2][::-1],),) + rest,
                      (first[:2] + (first[2][:1],),) + rest, (first[:2] + (first[2] + (1,),),) + rest,
                      (first[:2] + ((2, True),),) + rest, (first + (0,),) + rest, ((0, list(first[1]), first[2]),) + rest, (),
                      cells + ((3,) + first[1:],), tuple(sorted(cells + ((1, first[1], first[2]),))),
                      tuple(sorted(cells + ((0, ((0,), (1,), (2,)), (2, 1)),)))):
            self.assertIs(never_holds(oracle.NEXT, ("ever", other)), False, other)

    def test_one_cell_for_each_place(self):
        rules = Rules("a", "xy", ((("a", "x", 0), ("a", "y", 1)), (("a", "x", 0), ("a", "y", 1))))
        told = ((0, 1), (0, 1))
        for cells, holds in ((((0, told, (0,)),), True), (((0, told, (1,)), (1, told, (0,))), True),
                             (((0, told, (1,)),), False), (((0, told, (0,)), (0, told, (1,)), (1, told, (0,))), False)):
            self.assertIs(never_holds(rules, ("ever", cells)), holds, cells)

    def test_cells_of_long_classes_alone(self):
        cells = judge_never(oracle.NEXT)[1]
        told = ((1, 2), (1, 2), (1, 2))
        self.assertNotIn(told, oracle.long_classes(oracle.NEXT))
        self.assertIs(never_holds(oracle.NEXT, ("ever", tuple(sorted(cells + ((0, told, (2, 1)),))))), False)
        # The empty text's class is no long one here, though its cell would lead on.
        rules = Rules("a", "x", ((("a", "x", 1),), (("a", "x", 1),)))
        self.assertEqual(long_classes(rules), (((1,), (1,)),))
        cells = ((0, ((1,), (1,)), (1,)), (1, ((1,), (1,)), (1,)))
        self.assertIs(never_holds(rules, ("ever", cells)), True)
        self.assertIs(never_holds(rules, ("ever", cells + ((1, ((0,), (1,)), (1,)),))), False)
        self.assertIs(never_holds(rules, ("ever", cells[:1] + ((1, ((0,), (1,)), (1,)),) + cells[1:])), False)

    def test_one_thing_otherwise(self):
        seen = {True: 0, False: 0}
        for at, rules in enumerate(samples(75, 60)):
            for thing in odd.variants(judge_never(rules), at, 60):
                told = oracle.never_holds(rules, thing)
                seen[told] += 1
                self.assertIs(never_holds(rules, thing), told, (str(rules), thing))
        self.assertTrue(min(seen.values()) > 20, seen)

    def test_any_values(self):
        for thing in odd.VALUES:
            for rules in FULL:
                self.assertIs(never_holds(rules, thing), oracle.never_holds(rules, thing))

    def test_many_classes(self):
        found = 0
        for rules in oracle.many_full(76, 60, (("abc", "xyz"), ("ab", "xyz"))):
            if 60 < len(oracle.all_classes(rules)) <= 120:
                found += 1
                paper = judge_never(rules)
                self.assertTrue(oracle.never_holds(rules, paper))
                self.assertIs(never_holds(rules, paper), True)
                self.assertEqual(len(long_classes(rules)), len(oracle.long_classes(rules)))
        self.assertTrue(found > 1, found)

    def test_mute_ahead_of_all_else(self):
        for rules in [rules for rules in oracle.NAMED + tuple(oracle.many_rules(77, 60)) if oracle.first_mute(rules)]:
            for call, told in ((some_lag, ()), (judge_never, ()), (never_holds, (None,)), (never_holds, (("ever", [{}]),))):
                with self.assertRaises(Mute) as caught:
                    call(rules, *told)
                self.assertEqual(caught.exception.speech, oracle.first_mute(rules))

    def test_one_state(self):
        rules = Rules("a", "x", ((("a", "x", 0),),))
        self.assertEqual(judge_never(rules), ("ever", ((0, ((0,),), (0,)),)))

    def test_by_name(self):
        self.assertIs(some_lag(rules=oracle.ANY), True)
        self.assertEqual(judge_never(rules=oracle.ANY)[0], "ever")
        self.assertIs(never_holds(thing=("ever", ()), rules=oracle.ANY), False)


if __name__ == "__main__":
    unittest.main()
