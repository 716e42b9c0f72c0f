"""Relays: rules of the whole, plans and baffles of two lags, least pairs of lags, and what is written by a relay."""

import itertools
import unittest

from pacehouse.errors import Mute, Unjoined
from pacehouse.lateplans import can_be_late, judge_lag, least_lag
from pacehouse.captioning import is_full
from pacehouse.relays import can_relay, judge_relay, least_relays, put_together, relay_holds, relayed, through
from pacehouse.rules import Rules
from tests import odd, oracle, oracle_relay

LAGS = [(a, b) for b in range(3) for a in range(b + 1)]


def couples(seed, count):
    return oracle_relay.full_couples(seed, count)


class ThroughTest(unittest.TestCase):
    def any_couples(self, seed, count):
        """Couples that can be joined, full and others, with states without moves, with other letters in between."""
        every = [rules for rules in oracle.NAMED if len(rules) <= 4 and len(rules.heard) < 3]
        every += oracle.many_rules(seed, count, (("ab", "ab"), ("a", "ab"), ("ab", "a"), ("b", "ab"), ("ab", "xy")), most=3)
        every += oracle.many_rules(seed + 1, count // 2, (("abc", "ab"), ("xy", "ab"), ("ax", "xy")), most=3) + [oracle_relay.WIDE]
        return [(one, other) for one, other in itertools.product(every, repeat=2) if oracle_relay.joined(one, other)][::5]

    def test_beside_all_short_pairs(self):
        seen = {True: 0, False: 0}
        for one, other in self.any_couples(431, 20):
            whole = through(one, other)
            self.assertIsInstance(whole, Rules)
            self.assertEqual((whole.heard, whole.written), (one.heard, other.written))
            right = {(speech, low) for speech in oracle.texts(one.heard, 3) for text, _ in oracle.ways(one, 0, speech)
                     for low, _ in oracle.ways(other, 0, text)}
            for pair in oracle.pairs(one.heard, other.written, 3):
                self.assertIs(whole.is_right(*pair), pair in right)
                seen[pair in right] += 1
            if is_full(one) and is_full(other):
                self.assertTrue(is_full(whole))
        self.assertTrue(min(seen.values()) > 1000, seen)

    def test_longer_pairs(self):
        for one, other in couples(433, 20):
            whole = through(one, other)
            for speech in (one.heard * 3, one.heard[0] * 5, one.heard[-1] * 6):
                right = {low for text in {text for text, _ in oracle.ways(one, 0, speech)} for low, _ in oracle.ways(other, 0, text)}
                for caption in oracle.texts(other.written, len(speech)):
                    if len(caption) == len(speech):
                        self.assertIs(whole.is_right(speech, caption), caption in right)

    def test_known(self):
        """Through NEXT and NEXT captions have the letters that are heard two places later."""
        whole = through(oracle.NEXT, oracle.NEXT)
        for pair in oracle.pairs("ab", "ab", 5):
            self.assertIs(whole.is_right(*pair), pair[0][2:] == pair[1][:-2] if len(pair[0]) > 2 else True)
        self.assertEqual(through(oracle.SILENT, Rules("x", "y", ((("x", "y", 0),),))).rows, ((),))
        self.assertEqual(least_lag(whole, 5), 2)

    def test_another_middle_text_for_each_beginning(self):
        """Behind the first sign only a middle text with x will do, behind the second one only one with y."""
        one = Rules("ab", "xy", ((("a", "x", 1), ("a", "y", 2)), (("a", "x", 1),), (("a", "y", 2), ("b", "y", 2))))
        other = Rules("xy", "pq", ((("x", "p", 1), ("y", "p", 0)), (("x", "q", 1),)))
        whole = through(one, other)
        self.assertEqual([whole.is_right(*pair) for pair in (("a", "p"), ("aa", "pq"), ("aa", "pp"), ("aab", "ppp"), ("aab", "pqp"))],
                         [True, True, True, True, False])


class PapersTest(unittest.TestCase):
    def test_cell_by_cell(self):
        seen = {"plan": 0, "baffle": 0}
        for one, other in couples(441, 40):
            told = str(one), str(other)
            for a, b in LAGS:
                paper = judge_relay(one, other, a, b)
                seen[paper[0]] += 1
                self.assertTrue(oracle_relay.relay_holds(one, other, (a, b), paper))
                self.assertIs(relay_holds(one, other, a, b, paper), True)
                self.assertEqual(paper[0] == "plan", oracle_relay.START in oracle_relay.winning(one, other, (a, b)))
                self.assertIs(can_relay(one, other, a, b), paper[0] == "plan")
                self.assertTrue(odd.same_kind(judge_relay(one, other, a, b), paper))
            self.assertEqual((str(one), str(other)), told)
        self.assertTrue(min(seen.values()) > 60, seen)

    def test_papers_of_other_lags(self):
        for one, other in couples(442, 12):
            for a, b in LAGS:
                paper = judge_relay(one, other, a, b)
                for c, d in LAGS:
                    self.assertIs(relay_holds(one, other, c, d, paper), oracle_relay.relay_holds(one, other, (c, d), paper))

    def test_papers_put_together_otherwise(self):
        seen = {"plan": 0, "baffle": 0}
        for one, other in couples(443, 20):
            for a, b in LAGS:
                plan, baffle = oracle_relay.widest_plan(one, other, (a, b)), oracle_relay.widest_baffle(one, other, (a, b))
                self.assertNotEqual(relay_holds(one, other, a, b, plan), relay_holds(one, other, a, b, baffle))
                for paper in (plan, baffle, oracle_relay.widest_baffle(one, other, (a, b), 0)):
                    told = oracle_relay.relay_holds(one, other, (a, b), paper)
                    self.assertEqual(told, (paper[0] == "plan") == can_relay(one, other, a, b))
                    self.assertIs(relay_holds(one, other, a, b, paper), told)
                    seen[paper[0]] += told
        self.assertTrue(min(seen.values()) > 30, seen)

    def test_stands_to_which_nothing_leads(self):
        """In some stands a written letter is fixed without a middle one."""
        one = other = Rules("a", "a", ((("a", "a", 0),),))
        cells = ((0, "", 0, "", (("", ""),)), (0, "a", 0, "", (("a", "a"),)))
        self.assertIs(relay_holds(one, other, 1, 1, ("plan", cells)), True)
        self.assertIs(relay_holds(one, other, 1, 2, ("plan", cells)), False)
        cells = ((0, "", 0, "", (("", ""),)), (0, "a", 0, "", (("a", ""),)), (0, "a", 0, "a", (("a", "a"),)))
        self.assertIs(relay_holds(one, other, 1, 2, ("plan", cells)), True)
        for pair, holds in ((("", "a"), True), (("", ""), False), (("a", ""), False), (("a", "a"), False)):
            more = tuple(sorted(cells + ((0, "", 0, "aa", (pair,)),)))
            # Behind it two middle letters are left, of which one is fixed, and the letter waits.
            self.assertIs(relay_holds(one, other, 1, 2, ("plan", more)), holds)
            self.assertIs(oracle_relay.relay_holds(one, other, (1, 2), ("plan", more)), holds)
        for pair, holds in ((("", ""), True), (("", "a"), False)):
            more = tuple(sorted(cells + ((0, "", 0, "a", (pair,)),)))
            self.assertIs(relay_holds(one, other, 1, 2, ("plan", more)), holds)
        self.assertIs(relay_holds(one, other, 1, 2, ("plan", tuple(sorted(cells + ((0, "", 0, "aaa", (("", "a"),)),))))), False)
        self.assertIs(relay_holds(one, other, 1, 2, ("plan", tuple(sorted(cells + ((0, "aa", 0, "", (("a", ""),)),))))), False)

    def test_no_more_letters_than_the_lags(self):
        """Cells and rows that would hold if their stands had not too many letters in waiting, or in both together."""
        one = other = Rules("a", "a", ((("a", "a", 0),),))
        cells = ((0, "", 0, "", (("", ""),)), (0, "a", 0, "", (("a", ""),)), (0, "a", 0, "a", (("a", "a"),)))
        self.assertIs(relay_holds(one, other, 1, 2, ("plan", cells)), True)
        for cell in ((0, "aa", 0, "", (("a", "a"),)), (0, "aa", 0, "a", (("a", "a"),)), (0, "a", 0, "aa", (("a", "a"),)), (0, "", 0, "aaa", (("", "a"),))):
            self.assertIs(relay_holds(one, other, 1, 2, ("plan", tuple(sorted(cells + (cell,))))), False, cell)
        baffle = judge_relay(oracle.NEXT, oracle.NEXT, 0, 1)[1]
        self.assertIs(relay_holds(oracle.NEXT, oracle.NEXT, 0, 1, ("baffle", baffle)), True)
        for row in ((1, "b", 0, "", "a", 99), (2, "a", 0, "", "b", 99), (1, "", 0, "ab", "b", 99)):
            told = ("baffle", tuple(sorted(baffle + (row,))))
            self.assertIs(relay_holds(oracle.NEXT, oracle.NEXT, 0, 1, told), False, row)
            self.assertIs(oracle_relay.relay_holds(oracle.NEXT, oracle.NEXT, (0, 1), told), False, row)

    def test_one_row_for_each_stand(self):
        for cells, holds in (((("a", "a"), ("b", "a")), True), ((("a", "b"), ("b", "b")), True)):
            self.assertIs(relay_holds(oracle.ANY, oracle.ANY, 0, 0, ("plan", ((0, "", 0, "", cells),))), holds)
        both = ((0, "", 0, "", (("a", "a"), ("b", "a"))), (0, "", 0, "", (("a", "b"), ("b", "b"))))
        self.assertIs(relay_holds(oracle.ANY, oracle.ANY, 0, 0, ("plan", both)), False)
        baffle = ((0, "", 0, "", "a", 1), (1, "", 0, "", "b", 0), (2, "", 0, "", "a", 0))
        for row in ((0, "", 0, "", "a", 2), (2, "", 0, "", "a", 7), (0, "", 0, "", "b", 1)):
            self.assertIs(relay_holds(oracle.NEXT, oracle.ANY, 0, 0, ("baffle", tuple(sorted(baffle + (row,))))), False)

    def test_letters_of_the_middle(self):
        """What is in the middle has letters that the first house writes, not others that the other one hears."""
        one, other = oracle.ANY, oracle_relay.WIDE
        baffle = oracle_relay.widest_baffle(one, other, (0, 1))[1]
        plan = oracle_relay.widest_plan(one, other, (0, 1))[1]
        self.assertIs(relay_holds(one, other, 0, 1, ("plan", plan)), True)
        more = plan + ((0, "", 0, "c", (("a", "x"), ("a", "x"))),)
        self.assertIs(relay_holds(one, other, 0, 1, ("plan", tuple(sorted(more)))), False)
        self.assertEqual(baffle, ())

    def test_rows_where_no_pair_can_be_fixed(self):
        """A middle letter behind which a written one is due and none can be fixed is no pair."""
        one = Rules("a", "ab", ((("a", "a", 0), ("a", "b", 0)),))
        other = Rules("ab", "x", ((("a", "x", 1), ("b", "x", 0)), (("a", "x", 2), ("b", "x", 1)), (("a", "x", 2), ("b", "x", 2))))
        for a, b in LAGS:
            self.assertEqual(judge_relay(one, other, a, b)[0], "plan")
        paper = ("baffle", ((0, "", 0, "", "a", 0),))
        self.assertIs(relay_holds(one, other, 0, 0, paper), False)
        self.assertIs(relay_holds(oracle.NEXT, oracle.ANY, 0, 0, ("baffle", (
            (0, "", 0, "", "a", 1), (1, "", 0, "", "b", 0), (2, "", 0, "", "a", 0)))), True)
        # At the lags (0, 1) of NEXT and NEXT stands that are not open may have rows, at which nothing can be fixed.
        baffle = oracle_relay.widest_baffle(oracle.NEXT, oracle.NEXT, (0, 1), 0)
        self.assertIs(relay_holds(oracle.NEXT, oracle.NEXT, 0, 1, baffle), True)
        shut = [row for row in baffle[1] if not oracle_relay.is_open(oracle.NEXT, oracle.NEXT, row[:4])]
        self.assertTrue(shut)
        self.assertTrue([row for row in baffle[1] if not oracle_relay.choices(oracle.NEXT, oracle.NEXT, (0, 1), row[:4], row[4])])

    def test_one_thing_otherwise(self):
        seen = {True: 0, False: 0}
        for at, (one, other) in enumerate(couples(444, 16)):
            for a, b in LAGS:
                for paper in (judge_relay(one, other, a, b), oracle_relay.widest_baffle(one, other, (a, b)),
                              oracle_relay.widest_plan(one, other, (a, b))):
                    for thing in odd.variants(paper, at * 10 + a + b, 12):
                        told = oracle_relay.relay_holds(one, other, (a, b), thing)
                        seen[told] += 1
                        self.assertIs(relay_holds(one, other, a, b, thing), told, (str(one), str(other), a, b, thing))
        self.assertTrue(min(seen.values()) > 60, seen)

    def test_kinds_of_parts(self):
        baffle = ((0, "", 0, "", "a", 1), (1, "", 0, "", "b", 0), (2, "", 0, "", "a", 0))
        for rows in (list(baffle), baffle[1:], baffle[:2], baffle[::-1], baffle + baffle[2:], (list(baffle[0]),) + baffle[1:],
                     ((False, "", 0, "", "a", 1),) + baffle[1:], ((0, "", False, "", "a", 1),) + baffle[1:],
                     ((0, "", 0, "", "a", True),) + baffle[1:], ((0, "", 0, "", "a", 0),) + baffle[1:], ((0, "", 0, "", "", 1),) + baffle[1:],
                     ((0, "", 0, "", "ab", 1),) + baffle[1:], ((0, "", 0, "", "c", 1),) + baffle[1:], baffle + ((3, "", 0, "", "a", 0),),
                     baffle + ((2, "", 1, "", "a", 0),), baffle[:2] + ((2, "", 0, "", "a", -1),), baffle[:2] + ((2, "", 0, "", "b", 0),),
                     ((0, "", 0, "", "a", 1), (0, "", 0, "", "b", 1)) + baffle[1:], ((0, None, 0, "", "a", 1),) + baffle[1:],
                     ((0, "", 0, None, "a", 1),) + baffle[1:], ((0, "", 0, "", None, 1),) + baffle[1:], ((0, "", 0, "", "a"),) + baffle[1:],
                     baffle[:1] + ((0, "", 0, "a", "a", 9),) + baffle[1:], baffle[:1] + ((0, "a", 0, "", "a", 9),) + baffle[1:]):
            self.assertIs(relay_holds(oracle.NEXT, oracle.ANY, 0, 0, ("baffle", rows)), False, rows)
        self.assertIs(relay_holds(oracle.NEXT, oracle.ANY, 0, 0, ("baffle", baffle)), True)
        self.assertIs(relay_holds(oracle.NEXT, oracle.ANY, 0, 0, ("baffle", ((0, "", 0, "", "b", 10 ** 39),) + baffle[1:])), True)
        cells = ((0, "", 0, "", (("a", "a"), ("b", "a"))),)
        self.assertIs(relay_holds(oracle.ANY, oracle.ANY, 0, 0, ("plan", cells)), True)
        for signs in ([("a", "a"), ("b", "a")], (("a", "a"),), (("a", "a"), ("b", "a"), ("b", "a")), (["a", "a"], ("b", "a")),
                      (("a", "a"), ("b", "")), (("a", "a"), ("", "a")), (("a", "a"), ("", "")), (("a", "a"), ("c", "a")),
                      (("a", "a"), ("b", "c")), (("a", "a"), ("bb", "a")), (("a", "a"), ("b", None)), (("a", "a"), ("b", ["a"])),
                      (("a", "a"), ("b",)), (("a", "a"), "ba"), ("aa", "ba"), None, "", (("a", "a"), ("b", "a", ""))):
            self.assertIs(relay_holds(oracle.ANY, oracle.ANY, 0, 0, ("plan", ((0, "", 0, "", signs),))), False, signs)
        for thing in (["plan", cells], ("plan", cells, 0), ("baffle", cells), ("Plan", cells), (cells,), cells, ("plan",), ("plan", list(cells)),
                      ("plan", cells + cells), ("plan", ((0, "", 0, ""),)), ("plan", ((0, "", 0, "", (("a", "a"), ("b", "a")), 0),))):
            self.assertIs(relay_holds(oracle.ANY, oracle.ANY, 0, 0, thing), False)

    def test_any_values(self):
        more = (("plan", (odd.DEEP,)), ("baffle", (odd.DEEP,)), ("plan", ((0, "", 0, "", odd.DEEP),)), ("plan", ((0, odd.DEEP, 0, "", ()),)),
                ("baffle", ((0, "", 0, odd.DEEP, "a", 0),)), ("baffle", ((0, "", 0, "", {}, 0),)), ("plan", ((0, "", {}, "", ()),)))
        for one, other in couples(445, 6):
            for thing in odd.VALUES + more:
                self.assertIs(relay_holds(one, other, 1, 1, thing), oracle_relay.relay_holds(one, other, (1, 1), thing))


class LeastTest(unittest.TestCase):
    def test_beside_all_pairs_of_lags(self):
        found = set()
        for one, other in couples(451, 40):
            good = [(a, b) for a in range(4) for b in range(a, 4) if can_relay(one, other, a, b)]
            for a, b in good:
                for more in ((a, b + 1), (a + 1, b + 1), (a + 1, b)):
                    self.assertTrue(more in good or more[1] > 3 or more[0] > more[1])
            for most in range(4):
                least = tuple(pair for pair in good if pair[1] <= most and not any(
                    x <= pair[0] and y <= pair[1] and (x, y) != pair for x, y in good))
                self.assertTrue(odd.same_kind(least_relays(one, other, most), least))
            found.add(least_relays(one, other, 3))
        self.assertTrue(found >= {(), ((0, 0),), ((1, 1),), ((1, 2),)}, found)

    def test_two_least_pairs(self):
        one, other = oracle_relay.EARLY
        self.assertEqual([least_relays(one, other, most) for most in range(4)], [(), (), ((2, 2),), ((1, 3), (2, 2))])
        good = [(a, b) for a in range(4) for b in range(a, 4) if oracle_relay.START in oracle_relay.winning(one, other, (a, b))]
        self.assertEqual(good, [(1, 3), (2, 2), (2, 3), (3, 3)])

    def test_the_whole_is_as_late_at_most(self):
        """If there is a plan of (a, b), the whole has a plan of the lag b; it can have one of a lesser lag."""
        lesser = 0
        for one, other in couples(453, 60):
            for a, b in least_relays(one, other, 3):
                whole = through(one, other)
                self.assertIs(can_be_late(whole, b), True)
                lesser += least_lag(whole, 3) < b
        self.assertTrue(lesser > 3)


class TogetherTest(unittest.TestCase):
    def plans(self, rules):
        for lag in (0, 1, 2):
            if can_be_late(rules, lag):
                yield lag, judge_lag(rules, lag)[1]
                yield lag, oracle.widest_plan(rules, lag)[1]

    def test_a_plan_of_both_lags(self):
        seen = set()
        for one, other in couples(461, 30):
            for (a, cells), (c, more) in itertools.product(self.plans(one), self.plans(other)):
                if a > 1 or c > 1:
                    continue
                found = put_together(one, other, cells, more)
                self.assertTrue(oracle_relay.relay_holds(one, other, (a, a + c), ("plan", found)))
                self.assertIs(relay_holds(one, other, a, a + c, ("plan", found)), True)
                self.assertEqual(put_together(one, other, cells, more), found)
                seen.add((a, c))
        self.assertEqual(seen, {(0, 0), (0, 1), (1, 0), (1, 1)})

    def test_houses_write_as_they_do_alone(self):
        """What is fixed by both together is what the first one writes, and what the other one writes below that."""
        for one, other in couples(462, 15):
            for (a, cells), (c, more) in itertools.product(self.plans(one), self.plans(other)):
                together = put_together(one, other, cells, more)
                for speech in list(oracle.texts(one.heard, 4))[-6:]:
                    told, _ = oracle_relay.along(one, other, together, speech)
                    fixed = oracle_relay_alone(one, a, cells, speech)
                    self.assertEqual(told[-1][0], fixed)
                    self.assertEqual(told[-1][1], oracle_relay_alone(other, c, more, fixed))


def oracle_relay_alone(rules, lag, cells, speech):
    """What is fixed by a plan's cells behind a speech."""
    table = {cell[:2]: cell[2] for cell in cells}
    state, waiting, written = 0, "", ""
    for letter in speech:
        signs = table[(state, waiting)]
        waiting += letter
        if len(waiting) > lag:
            sign = signs[rules.heard.index(letter)]
            state = next(after for h, c, after in rules.rows[state] if (h, c) == (waiting[0], sign))
            waiting, written = waiting[1:], written + sign
    return written


class RelayedTest(unittest.TestCase):
    def check_moments(self, one, other, cells, speech):
        """Both texts are right at each moment, and what was fixed stays."""
        told, last = oracle_relay.along(one, other, cells, speech)
        self.assertEqual(relayed(one, other, cells, speech), last)
        for many, (text, caption, _) in enumerate(told):
            middle, low = relayed(one, other, cells, speech[:many])
            self.assertTrue(one.is_right(speech[:many], middle) and other.is_right(middle, low))
            self.assertTrue(middle.startswith(text) and low.startswith(caption))
            self.assertTrue(last[0].startswith(text) and last[1].startswith(caption))

    def test_each_short_speech(self):
        seen = 0
        for one, other in couples(471, 25):
            for a, b in LAGS + [(1, 3), (3, 3)]:
                paper = judge_relay(one, other, a, b)
                if paper[0] == "plan":
                    seen += 1
                    for speech in oracle.texts(one.heard, 4 if b < 3 else 2):
                        self.check_moments(one, other, paper[1], speech)
                    if b < 3:
                        for speech in list(oracle.texts(one.heard, 4))[-6:]:
                            self.check_moments(one, other, oracle_relay.widest_plan(one, other, (a, b))[1], speech)
        self.assertTrue(seen > 40)

    def test_long_and_empty_speeches(self):
        for one, other in couples(472, 8):
            for a, b in least_relays(one, other, 3):
                cells = judge_relay(one, other, a, b)[1]
                self.assertEqual(relayed(one, other, cells, ""), ("", ""))
                for speech in ((one.heard * 60)[:60], one.heard[0] * 60, (one.heard[-1] * 3 + one.heard[0]) * 15):
                    self.check_moments(one, other, cells, speech)

    def test_cells_put_together(self):
        cells = judge_lag(oracle.NEXT, 1)[1]
        together = put_together(oracle.NEXT, oracle.NEXT, cells, cells)
        self.check_moments(oracle.NEXT, oracle.NEXT, together, "abba" * 15)
        self.assertEqual(relayed(oracle.NEXT, oracle.NEXT, together, "abba" * 15), ("bbaa" * 14 + "bbaa", "baab" * 14 + "baaa"))

    def test_first_middle_text_that_will_do(self):
        """The first text that leads the waiting letters on need not be one below which a caption goes on."""
        one = Rules("a", "xy", ((("a", "x", 0), ("a", "y", 0)),))
        other = Rules("xy", "pq", ((("x", "p", 1), ("x", "q", 2), ("y", "p", 1), ("y", "q", 2)), (("x", "p", 1), ("y", "q", 1)), (
            ("x", "q", 2), ("y", "p", 2))))
        cells = judge_relay(one, other, 1, 1)[1]
        for speech in ("", "a", "aa", "aaaa"):
            self.check_moments(one, other, cells, speech)
        self.assertEqual(relayed(one, other, cells, "a"), ("x", "p"))


class CallsTest(unittest.TestCase):
    def asked(self, one, other):
        return ((judge_relay, (one, other, 0, 1)), (relay_holds, (one, other, 0, 1, ())), (relay_holds, (one, other, None, None, [{}])),
                (can_relay, (one, other, 0, 0)), (least_relays, (one, other, 2)), (put_together, (one, other, (), ())),
                (relayed, (one, other, (), "")), (judge_relay, (one, other, None, None)), (put_together, (one, other, None, None)),
                (relayed, (one, other, None, None)))

    def test_unjoined_ahead_of_mute(self):
        every = list(oracle.NAMED) + oracle.many_rules(481, 20)
        seen = mutes = 0
        for one, other in itertools.product(every, repeat=2):
            left = sorted(set(one.written) - set(other.heard))
            if left:
                seen += len(left) > 1
                mutes += oracle.first_mute(one) is not None
                for call, told in ((through, (one, other)), *self.asked(one, other)):
                    with self.assertRaises(Unjoined) as caught:
                        call(*told)
                    self.assertEqual(caught.exception.letter, left[0])
        self.assertTrue(seen > 50 and mutes > 50)

    def test_mute_of_one_or_else_of_other(self):
        every = [rules for rules in oracle.NAMED if len(rules.heard) < 3] + oracle.many_rules(482, 40, (("ab", "ab"), ("a", "ab")))
        seen = {"one": 0, "other": 0, "both": 0}
        for one, other in itertools.product(every, repeat=2):
            mutes = oracle.first_mute(one), oracle.first_mute(other)
            if oracle_relay.joined(one, other) and mutes != (None, None):
                seen["both" if None not in mutes else "one" if mutes[0] is not None else "other"] += 1
                for call, told in self.asked(one, other):
                    with self.assertRaises(Mute) as caught:
                        call(*told)
                    self.assertEqual(caught.exception.speech, mutes[0] if mutes[0] is not None else mutes[1])
        self.assertTrue(min(seen.values()) > 20, seen)

    def test_through_asks_for_no_full_rules(self):
        self.assertEqual(through(oracle.LATE, oracle.LATE).heard, "ab")
        self.assertIs(through(oracle.LATE, oracle.ECHO).is_right("a", "b"), True)
        self.assertIs(through(oracle.LATE, oracle.ECHO).is_right("b", "b"), False)

    def test_by_name(self):
        told = str(oracle.NEXT)
        for _ in range(2):
            paper = judge_relay(lag=1, middle_lag=1, other=oracle.ANY, one=oracle.NEXT)
            self.assertIs(relay_holds(thing=paper, lag=1, middle_lag=1, other=oracle.ANY, one=oracle.NEXT), True)
            self.assertIs(can_relay(lag=1, middle_lag=1, other=oracle.ANY, one=oracle.NEXT), True)
            self.assertEqual(least_relays(most=3, other=oracle.ANY, one=oracle.NEXT), ((1, 1),))
            self.assertEqual(through(other=oracle.ANY, one=oracle.NEXT), through(oracle.NEXT, oracle.ANY))
            cells = judge_lag(oracle.NEXT, 1)[1]
            found = put_together(more=cells, cells=cells, other=oracle.NEXT, one=oracle.NEXT)
            self.assertEqual(relayed(speech="abba", cells=found, other=oracle.NEXT, one=oracle.NEXT), ("bbaa", "baaa"))
        self.assertEqual(str(oracle.NEXT), told)

    def test_greatest_limits(self):
        for one, other in couples(483, 12):
            for a, b in ((0, 3), (2, 3), (3, 3)):
                paper = judge_relay(one, other, a, b)
                self.assertIs(relay_holds(one, other, a, b, paper), True)
        whole = through(oracle.NEXT, oracle.NEXT)
        self.assertEqual(least_relays(whole, oracle.NEXT, 3), ((2, 3),))


if __name__ == "__main__":
    unittest.main()
