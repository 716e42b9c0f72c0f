"""Plans of late writers, baffles of speakers, and what is written by a plan."""

import unittest

from pacehouse.errors import Mute
from pacehouse.lateplans import can_be_late, judge_lag, lag_holds, least_lag, written_by
from pacehouse.rules import Rules
from tests import odd, oracle

FULL = [rules for rules in oracle.NAMED if oracle.first_mute(rules) is None]


def samples(seed, count):
    return FULL + oracle.many_full(seed, count)


def by_hand(rules, lag, cells, speech):
    """What is written to a speech by a plan's cells, and the stand at the end."""
    table = {cell[:2]: cell[2] for cell in cells}
    state, waiting, caption = 0, "", ""
    for letter in speech:
        sign = table[(state, waiting)][rules.heard.index(letter):][:1]
        waiting += letter
        if len(waiting) > lag:
            state = dict(((h, c), after) for h, c, after in rules.rows[state])[(waiting[0], sign)]
            caption, waiting = caption + sign, waiting[1:]
    return caption + min(told for told, _ in oracle.ways(rules, state, waiting))


class LagTest(unittest.TestCase):
    def test_papers_row_by_row(self):
        seen = {"plan": 0, "baffle": 0}
        for rules in samples(51, 70):
            told = str(rules)
            for lag in range(4 if len(rules.heard) < 3 else 3):
                paper = judge_lag(rules, lag)
                seen[paper[0]] += 1
                self.assertTrue(oracle.lag_holds(rules, lag, paper))
                self.assertIs(lag_holds(rules, lag, paper), True)
                self.assertEqual(paper[0] == "plan", (0, "") in oracle.winning(rules, lag))
                self.assertIs(can_be_late(rules, lag), paper[0] == "plan")
                self.assertTrue(odd.same_kind(judge_lag(rules, lag), paper))
            self.assertEqual(str(rules), told)
        self.assertTrue(min(seen.values()) > 40, seen)

    def test_least_lag(self):
        found = []
        for rules in samples(52, 70):
            lags = [lag for lag in range(4) if can_be_late(rules, lag)]
            self.assertEqual(lags, list(range(4 - len(lags), 4)))
            for most in range(4):
                within = [lag for lag in lags if lag <= most]
                self.assertEqual(least_lag(rules, most), within[0] if within else None)
            found.append(least_lag(rules, 3))
        self.assertTrue({None, 0, 1, 2} <= set(found), found)

    def test_a_plan_is_no_plan_of_the_next_lag(self):
        for rules in samples(53, 20):
            for lag in range(3):
                paper = judge_lag(rules, lag)
                for other in range(4):
                    self.assertIs(lag_holds(rules, other, paper), oracle.lag_holds(rules, other, paper))

    def test_both_never_hold(self):
        for rules in samples(54, 30):
            for lag in range(3):
                plan, baffle = oracle.widest_plan(rules, lag), oracle.widest_baffle(rules, lag)
                self.assertNotEqual(lag_holds(rules, lag, plan), lag_holds(rules, lag, baffle))

    def test_papers_put_together_otherwise(self):
        seen = {"plan": 0, "baffle": 0}
        for rules in samples(55, 60):
            for lag in range(3):
                for paper in (oracle.widest_plan(rules, lag), oracle.widest_baffle(rules, lag),
                              oracle.widest_baffle(rules, lag, 0)):
                    told = oracle.lag_holds(rules, lag, paper)
                    self.assertEqual(told, (paper[0] == "plan") == can_be_late(rules, lag))
                    seen[paper[0]] += told
                    self.assertIs(lag_holds(rules, lag, paper), told)
        self.assertTrue(min(seen.values()) > 40, seen)

    def test_rows_of_stands_that_are_not_open(self):
        rows = ((0, "", "a", 5), (0, "a", "b", 4), (0, "b", "b", 4), (1, "a", "b", 1), (1, "b", "a", 0), (2, "b", "a", 1))
        self.assertIs(oracle.is_open(oracle.NEXT, 1, "b"), False)
        self.assertFalse(lag_holds(oracle.NEXT, 1, ("baffle", rows)))
        rules = oracle.LATER
        paper = oracle.widest_baffle(rules, 1)
        shut = [row for row in paper[1] if not oracle.is_open(rules, *row[:2])]
        self.assertTrue(shut)
        self.assertIs(lag_holds(rules, 1, paper), True)
        # A row that cannot be kept spoils a baffle, also where nothing leads to it.
        good = judge_lag(rules, 1)
        self.assertEqual(good[0], "baffle")
        stand = [stand for stand in sorted(oracle.stands(rules, 1)) if stand not in [row[:2] for row in good[1]]
                 and oracle.is_open(rules, *stand) and stand[1] != ""][0]
        spoilt = ("baffle", tuple(sorted(good[1] + ((*stand, "a", 0),))))
        self.assertIs(lag_holds(rules, 1, spoilt), oracle.lag_holds(rules, 1, spoilt))
        self.assertIs(lag_holds(rules, 1, spoilt), False)

    def test_cells_to_which_nothing_leads(self):
        plan = judge_lag(oracle.NEXT, 1)
        for cell, holds in (((1, "", ""), False), ((2, "a", "ab"), False), ((0, "a", "ba"), False), ((1, "b", "ab"), False)):
            thing = ("plan", tuple(sorted(plan[1] + (cell,))))
            self.assertIs(oracle.lag_holds(oracle.NEXT, 1, thing), holds)
            self.assertIs(lag_holds(oracle.NEXT, 1, thing), holds)
        rules = Rules("a", "x", ((("a", "x", 0),), (("a", "x", 0),)))
        for cell, holds in (((1, "a", "x"), True), ((1, "", ""), False), ((1, "a", ""), False), ((2, "a", "x"), False)):
            thing = ("plan", ((0, "", ""), (0, "a", "x"), cell))
            self.assertIs(lag_holds(rules, 1, thing), holds)
        self.assertIs(lag_holds(rules, 1, ("plan", ((0, "", ""), (0, "a", "x"), (1, "", ""), (1, "a", "x")))), True)

    def test_one_thing_otherwise(self):
        seen = {True: 0, False: 0}
        for at, rules in enumerate(samples(56, 40)):
            for lag in range(3):
                for paper in (judge_lag(rules, lag), oracle.widest_baffle(rules, lag), oracle.widest_plan(rules, lag)):
                    for thing in odd.variants(paper, at * 10 + lag, 30):
                        told = oracle.lag_holds(rules, lag, thing)
                        seen[told] += 1
                        self.assertIs(lag_holds(rules, lag, thing), told, (str(rules), lag, thing))
        self.assertTrue(min(seen.values()) > 100, seen)

    def test_kinds_of_parts(self):
        baffle = ((0, "", "a", 1), (1, "", "b", 0), (2, "", "a", 0))
        self.assertIs(lag_holds(oracle.NEXT, 0, ("baffle", baffle)), True)
        self.assertIs(lag_holds(oracle.NEXT, 0, ("baffle", ((0, "", "b", 10 ** 39),) + baffle[1:])), True)
        for rows in (list(baffle), baffle[1:], baffle[:2], baffle[::-1], baffle + baffle[2:], (list(baffle[0]),) + baffle[1:],
                     ((False, "", "a", 1),) + baffle[1:], ((0, "", "a", True),) + baffle[1:], ((0, "", "a", 0),) + baffle[1:],
                     ((0, "", "", 1),) + baffle[1:], ((0, "", "ab", 1),) + baffle[1:], ((0, "", "c", 1),) + baffle[1:],
                     baffle + ((3, "", "a", 0),), ((-1, "", "a", 0),) + baffle, ((0, "", "a", 1), (0, "", "b", 1)) + baffle[1:],
                     baffle[:2] + ((2, "", "a", -1),), baffle[:2] + ((2, "", "a"),), baffle[:2] + ((2, "", "b", 0),),
                     ((0, None, "a", 1),) + baffle[1:], ((0, "", None, 1),) + baffle[1:], ((0, "", "a", None),) + baffle[1:]):
            self.assertIs(lag_holds(oracle.NEXT, 0, ("baffle", rows)), False, rows)
        plan = ((0, "", ""), (0, "a", "ab"), (0, "b", "ab"), (1, "a", "ab"), (2, "b", "ab"))
        self.assertIs(lag_holds(oracle.NEXT, 1, ("plan", plan)), True)
        for cells in (list(plan), plan[1:], plan[::-1], plan + plan[4:], plan[:4], (list(plan[0]),) + plan[1:],
                      ((False, "", ""),) + plan[1:], ((0, "", "ab"),) + plan[1:], ((0, "", None),) + plan[1:],
                      plan[:4] + ((2, "b", "a"),), plan[:4] + ((2, "b", "ax"),), plan[:4] + ((2, "b", "aa"),),
                      plan[:4] + ((2, "b", ("a", "b")),), plan[:4] + ((2, "b", "aba"),), plan[:4] + ((2, ("b",), "ab"),),
                      plan[:1] + ((0, "a", "aa"),) + plan[1:], plan + ((3, "a", "ab"),), plan[:4] + ((2, "b", "ab", 0),),
                      plan[:2] + ((0, "aa", "ab"),) + plan[2:], ((0, "", ""),), ()):
            self.assertIs(lag_holds(oracle.NEXT, 1, ("plan", cells)), False, cells)
        for thing in (["plan", plan], ("plan", plan, 0), ("baffle", plan), ("Plan", plan), (plan,), plan, ("plan",)):
            self.assertIs(lag_holds(oracle.NEXT, 1, thing), False)

    def test_one_row_for_each_stand(self):
        for cells, holds in ((((0, "", "aa"),), True), (((0, "", "ab"),), True), (((0, "", "aa"), (0, "", "ab")), False)):
            self.assertIs(lag_holds(oracle.ANY, 0, ("plan", cells)), holds)
        baffle = ((0, "", "a", 1), (1, "", "b", 0), (2, "", "a", 0))
        for row in ((0, "", "b", 1), (0, "", "a", 2), (2, "", "a", 7)):
            self.assertIs(lag_holds(oracle.NEXT, 0, ("baffle", tuple(sorted(baffle + (row,))))), False)

    def test_no_more_waiting_letters_than_the_lag(self):
        plan = judge_lag(oracle.NEXT, 1)[1]
        for cell in ((0, "aa", ""), (0, "aa", "ab"), (1, "ab", "")):
            self.assertIs(lag_holds(oracle.NEXT, 1, ("plan", tuple(sorted(plan + (cell,))))), False)
        rows = judge_lag(oracle.LATER, 1)[1]
        for row in ((0, "aa", "a", 99), (3, "bb", "b", 99), (0, "a" * 2000, "a", 99)):
            self.assertIs(lag_holds(oracle.LATER, 1, ("baffle", tuple(sorted(rows + (row,))))), False)
        self.assertIs(lag_holds(oracle.LATER, 1, ("baffle", rows)), True)
        baffle = ((0, "", "a", 1), (1, "", "b", 0), (2, "", "a", 0))
        self.assertIs(lag_holds(oracle.NEXT, 0, ("baffle", baffle[:2] + ((1, "b", "a", 0),) + baffle[2:])), False)

    def test_any_values(self):
        for thing in odd.VALUES:
            for rules in FULL:
                self.assertIs(lag_holds(rules, 1, thing), oracle.lag_holds(rules, 1, thing))

    def test_mute_ahead_of_all_else(self):
        for rules in [rules for rules in oracle.NAMED + tuple(oracle.many_rules(57, 60)) if oracle.first_mute(rules)]:
            for call, told in ((judge_lag, (1,)), (judge_lag, (None,)), (can_be_late, (0,)), (least_lag, (3,)),
                               (least_lag, (-1,)), (lag_holds, (0, None)), (lag_holds, (2, ("plan", [{}]))),
                               (written_by, ((), "zz")), (written_by, (None, None))):
                with self.assertRaises(Mute) as caught:
                    call(rules, *told)
                self.assertEqual(caught.exception.speech, oracle.first_mute(rules))

    def test_greatest_limits(self):
        told = Rules("abc", "abc", tuple(tuple((h, c, "abc".index(c) + 1) for h in "abc" for c in "abc"
                                               if state == 0 or "abc"[state - 1] == h) for state in range(4)))
        self.assertEqual(least_lag(told, 5), 1)
        for lag in (4, 5):
            paper = judge_lag(told, lag)
            self.assertEqual(paper[0], "plan")
            self.assertIs(lag_holds(told, lag, paper), True)
            self.assertIs(lag_holds(told, lag, ("plan", paper[1][:-1])), False)
        both = (oracle.TURNS & oracle.ANY) | oracle.LATER
        self.assertEqual(judge_lag(both, 5)[0], "plan")
        self.assertIsNone(least_lag(oracle.FAR, 5))
        self.assertIs(lag_holds(oracle.FAR, 5, judge_lag(oracle.FAR, 5)), True)

    def test_by_name(self):
        self.assertEqual(judge_lag(lag=0, rules=oracle.NEXT)[0], "baffle")
        self.assertIs(lag_holds(thing=("baffle", ()), lag=0, rules=oracle.NEXT), False)
        self.assertIs(can_be_late(lag=1, rules=oracle.NEXT), True)
        self.assertEqual(least_lag(most=3, rules=oracle.NEXT), 1)


class WrittenTest(unittest.TestCase):
    def test_each_speech(self):
        for rules in samples(58, 60):
            for lag in range(3):
                if not can_be_late(rules, lag):
                    continue
                for paper in (judge_lag(rules, lag), oracle.widest_plan(rules, lag)):
                    for speech in oracle.texts(rules.heard, 5 if len(rules.heard) < 3 else 4):
                        caption = written_by(rules, paper[1], speech)
                        self.assertTrue(rules.is_right(speech, caption))
                        self.assertEqual(caption, by_hand(rules, lag, paper[1], speech))

    def test_long(self):
        speech = "abb" * 20
        cells = judge_lag(oracle.NEXT, 1)[1]
        self.assertEqual(written_by(oracle.NEXT, cells, speech), speech[1:] + "a")
        self.assertEqual(written_by(oracle.NEXT, judge_lag(oracle.NEXT, 4)[1], speech), speech[1:] + "a")
        self.assertEqual(written_by(oracle.NEXT, cells, ""), "")

    def test_by_name(self):
        cells = judge_lag(oracle.NEXT, 1)[1]
        self.assertEqual(written_by(speech="abb", cells=cells, rules=oracle.NEXT), "bba")


if __name__ == "__main__":
    unittest.main()
