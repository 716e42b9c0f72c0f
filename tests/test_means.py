"""Least means, calm cells, restless cells, and what is shown by them."""

import unittest
from fractions import Fraction

from pacehouse.errors import Mute, TooSoon
from pacehouse.lateplans import judge_lag
from pacehouse.means import calm_cells, calm_holds, least_mean, restless_cells, restless_holds, shown_along
from pacehouse.rules import Rules
from pacehouse.shown import taken_back
from tests import odd, oracle, oracle_calm
from tests.test_shown import FULL, NOT_FULL

CALM = [(rules, reach) for rules, reach, _, _ in oracle_calm.KINDS]
HALVES = ((0, 1), (1, 4), (1, 3), (1, 2), (2, 3), (1, 1), (12, 11), (2, 1), (12, 1))


def samples(seed, ones=15, twos=4):
    """Rules with reaches for which there is a plan, most of them of no lesser lag."""
    found = list(CALM) + [(rules, 1) for rules in oracle_calm.many_calm(seed, ones, 1)]
    return found + [(rules, 2) for rules in oracle_calm.many_calm(seed + 1, twos, 2, scenes_at_most=28)] + [
        (rules, reach) for rules in FULL for reach in range(3)
        if len(oracle_calm.scenes(rules, reach)) <= 30 and (0, "") in oracle.winning(rules, reach)]


def beside(rules, reach, mean):
    """The least mean, and the fractions next to it, as in most once each, with denominators up to the number of scenes."""
    table = oracle_calm.fractions_up_to(len(oracle_calm.scenes(rules, reach)), max(reach, 1) + 1)
    at = table.index(Fraction(*mean))
    return [(told.numerator, told.denominator) for told in table[max(at - 1, 0):at + 2]]


class MeansTest(unittest.TestCase):
    def test_kinds(self):
        for rules, reach, mean, _ in oracle_calm.KINDS:
            self.assertEqual(least_mean(rules, reach), mean)

    def test_beside_a_slow_search(self):
        found = set()
        for rules, reach in samples(81, 12, 3):
            mean = least_mean(rules, reach)
            self.assertEqual(mean, oracle_calm.least_mean(rules, reach))
            self.assertTrue(odd.same_kind(mean, (Fraction(*mean).numerator, Fraction(*mean).denominator)))
            self.assertTrue(odd.same_kind(least_mean(rules, reach), mean))
            found.add(mean)
        self.assertTrue(len(found) > 5, found)

    def test_never_greater_at_a_greater_reach(self):
        for rules, reach in samples(83):
            if len(oracle_calm.scenes(rules, reach + 1)) <= 70 and reach < 2:
                one, other = least_mean(rules, reach), least_mean(rules, reach + 1)
                self.assertTrue(Fraction(*other) <= Fraction(*one))

    def test_greatest_limits(self):
        rules = oracle_calm.from_moves("ab0 ba1 bb0", "ab1")
        two = [rules for rules in oracle_calm.many_calm(84, 6, 3, most=3, scenes_at_most=70)] + [oracle.NEXT, rules]
        for rules in two:
            for reach in (1, 2, 3):
                if len(oracle_calm.scenes(rules, reach)) > 70 or judge_lag(rules, reach)[0] != "plan":
                    continue
                mean = least_mean(rules, reach)
                self.assertTrue(oracle_calm.calm_holds(rules, reach, mean, calm_cells(rules, reach, mean)))
                self.assertTrue(oracle_calm.restless_holds(rules, reach, mean, restless_cells(rules, reach, mean)))


class CellsTest(unittest.TestCase):
    def test_cell_by_cell(self):
        seen = {"calm": 0, "restless": 0, "no calm": 0, "no restless": 0}
        for rules, reach in samples(85):
            told = str(rules)
            mean = Fraction(*least_mean(rules, reach))
            for fraction in sorted({*HALVES, *beside(rules, reach, (mean.numerator, mean.denominator))}):
                cells = calm_cells(rules, reach, fraction)
                self.assertEqual(cells is not None, mean <= Fraction(*fraction))
                seen["no calm" if cells is None else "calm"] += 1
                if cells is not None:
                    self.assertTrue(oracle_calm.calm_holds(rules, reach, fraction, cells))
                    self.assertIs(calm_holds(rules, reach, fraction, cells), True)
                self.assertTrue(odd.same_kind(calm_cells(rules, reach, fraction), cells))
                cells = restless_cells(rules, reach, fraction)
                self.assertEqual(cells is not None, mean >= Fraction(*fraction))
                seen["no restless" if cells is None else "restless"] += 1
                if cells is not None:
                    self.assertTrue(oracle_calm.restless_holds(rules, reach, fraction, cells))
                    self.assertIs(restless_holds(rules, reach, fraction, cells), True)
                self.assertTrue(odd.same_kind(restless_cells(rules, reach, fraction), cells))
            self.assertEqual(str(rules), told)
        self.assertTrue(min(seen.values()) > 50, seen)

    def test_both_at_the_least_mean_alone(self):
        for rules, reach in samples(86, 10, 2):
            mean = least_mean(rules, reach)
            for fraction in beside(rules, reach, mean):
                both = [calm_cells(rules, reach, fraction), restless_cells(rules, reach, fraction)]
                self.assertEqual(None not in both, fraction == mean)

    def test_totals_of_calm_cells_at_nought(self):
        for rules, reach, mean, total in oracle_calm.KINDS:
            cells = calm_cells(rules, reach, (0, 1))
            if total is None:
                self.assertIsNone(cells)
            else:
                self.assertEqual(cells[0][:3], (0, "", ""))
                self.assertTrue(cells[0][3] >= total)

    def test_too_soon(self):
        seen = 0
        for rules in FULL + oracle.many_full(87, 40):
            for reach in range(3):
                if (0, "") in oracle.winning(rules, reach):
                    continue
                for call, told in ((least_mean, ()), (calm_cells, ((1, 1),)), (restless_cells, ((0, 1),))):
                    with self.assertRaises(TooSoon) as caught:
                        call(rules, reach, *told)
                    self.assertEqual(caught.exception.paper[0], "baffle")
                    self.assertTrue(oracle.lag_holds(rules, reach, caught.exception.paper))
                    seen += 1
        self.assertTrue(seen > 60, seen)


class HoldsTest(unittest.TestCase):
    def test_cells_put_together_otherwise(self):
        seen = {True: 0, False: 0}
        for rules, reach in samples(88):
            mean = least_mean(rules, reach)
            for p, q in ((0, 1), (1, 2), (2, 1), mean):
                for shift in (0, 7):
                    cells = oracle_calm.widest_calm(rules, reach, p, q, shift)
                    told = Fraction(*mean) <= Fraction(p, q)
                    self.assertEqual(oracle_calm.calm_holds(rules, reach, (p, q), cells), told)
                    self.assertIs(calm_holds(rules, reach, (p, q), cells), told)
                    seen[told] += 1
                    cells = oracle_calm.widest_restless(rules, reach, p, q, shift)
                    told = Fraction(*mean) >= Fraction(p, q)
                    self.assertEqual(oracle_calm.restless_holds(rules, reach, (p, q), cells), told)
                    self.assertIs(restless_holds(rules, reach, (p, q), cells), told)
                    seen[told] += 1
        self.assertTrue(min(seen.values()) > 50, seen)

    def test_at_other_fractions(self):
        for rules, reach in samples(89, 8, 2):
            mean = least_mean(rules, reach)
            calm, restless = calm_cells(rules, reach, mean), restless_cells(rules, reach, mean)
            for fraction in HALVES:
                for other in range(3):
                    self.assertIs(calm_holds(rules, other, fraction, calm),
                                  oracle_calm.calm_holds(rules, other, fraction, calm))
                    self.assertIs(restless_holds(rules, other, fraction, restless),
                                  oracle_calm.restless_holds(rules, other, fraction, restless))

    def test_without_a_plan(self):
        seen = 0
        for rules in FULL + oracle.many_full(90, 30):
            for reach in range(2):
                if (0, "") in oracle.winning(rules, reach) or len(oracle_calm.scenes(rules, reach)) > 25:
                    continue
                cells = oracle_calm.widest_restless(rules, reach, 3, 2)
                self.assertIs(restless_holds(rules, reach, (3, 2), cells), True)
                self.assertIs(calm_holds(rules, reach, (3, 2), cells), False)
                cells = oracle_calm.widest_calm(rules, reach, 3, 2)
                self.assertIs(calm_holds(rules, reach, (3, 2), cells), False)
                for thing in (*odd.VALUES, *odd.variants(cells, seen, 20)):
                    self.assertIs(calm_holds(rules, reach, (1, 1), thing), False)
                    told = oracle_calm.restless_holds(rules, reach, (1, 1), thing)
                    self.assertIs(restless_holds(rules, reach, (1, 1), thing), told)
                seen += 1
        self.assertTrue(seen > 15, seen)

    def test_one_thing_otherwise(self):
        seen = {True: 0, False: 0}
        for at, (rules, reach) in enumerate(samples(91, 10, 2)):
            mean = least_mean(rules, reach)
            for cells in (calm_cells(rules, reach, mean), oracle_calm.widest_calm(rules, reach, *mean)):
                for thing in odd.variants(cells, at, 80):
                    told = oracle_calm.calm_holds(rules, reach, mean, thing)
                    seen[told] += 1
                    self.assertIs(calm_holds(rules, reach, mean, thing), told, thing)
            for cells in (restless_cells(rules, reach, mean), oracle_calm.widest_restless(rules, reach, *mean)):
                for thing in odd.variants(cells, at, 80):
                    told = oracle_calm.restless_holds(rules, reach, mean, thing)
                    seen[told] += 1
                    self.assertIs(restless_holds(rules, reach, mean, thing), told, thing)
        self.assertTrue(min(seen.values()) > 60, seen)

    def test_kinds_of_parts_of_calm_cells(self):
        # At one half TURNS has a calm scene at first; each second letter may cost a sign.
        cells = ((0, "", "", 0, ("a", "a")), (0, "a", "a", 1, ("aa", "ba")), (0, "b", "a", 1, ("aa", "ba")),
                 (1, "a", "a", 0, ("aa", "aa")), (2, "b", "a", 0, ("aa", "aa")))
        self.assertIs(calm_holds(oracle.TURNS, 1, (1, 2), cells), True)
        more = tuple((*cell[:3], cell[3] + 10 ** 39, cell[4]) for cell in cells)
        self.assertIs(calm_holds(oracle.TURNS, 1, (1, 2), more), True)
        for wrong in (list(cells), cells[1:], cells[:4], cells[::-1], cells + cells[4:], (list(cells[0]),) + cells[1:],
                      ((False, "", "", 0, ("a", "a")),) + cells[1:], ((0, "", "", False, ("a", "a")),) + cells[1:],
                      ((0, "", "", -1, ("a", "a")),) + cells[1:], ((0, "", "", 0, ["a", "a"]),) + cells[1:],
                      ((0, "", "", 0, "aa"),) + cells[1:], ((0, "", "", 0, ("a",)),) + cells[1:],
                      ((0, "", "", 0, ("a", "a", "a")),) + cells[1:], ((0, "", "", 0, ("a", "x")),) + cells[1:],
                      ((0, "", "", 0, ("a", None)),) + cells[1:], ((0, "", "", 0, ("a", "aa")),) + cells[1:],
                      ((0, "", "", 0, ("a", "")),) + cells[1:], ((0, "", "", 0, ("a", "b")),) + cells[1:],
                      ((0, "", "", 0),) + cells[1:], ((0, "", "", 0, ("a", "a"), 0),) + cells[1:],
                      ((0, "", "", 0, ("a", "a")), (0, "", "", 1, ("a", "a"))) + cells[1:],
                      cells[:1] + ((0, "a", "a", 0, ("aa", "ba")),) + cells[2:], cells + ((3, "", "", 9, ("a", "a")),),
                      cells[:1] + ((0, "a", "a", 1, ("aa", "aa")),) + cells[2:],
                      cells[:3] + ((1, "", "", 9, ("a", "a")),) + cells[3:], ()):
            self.assertIs(calm_holds(oracle.TURNS, 1, (1, 2), wrong), False, wrong)
            self.assertIs(oracle_calm.calm_holds(oracle.TURNS, 1, (1, 2), wrong), False, wrong)

    def test_kinds_of_parts_of_restless_cells(self):
        rows = ((0, "", "", 1, "a"), (0, "a", "a", 0, "b"), (0, "a", "b", 0, "a"), (1, "a", "a", 1, "a"),
                (1, "a", "b", 1, "a"), (2, "b", "a", 1, "a"), (2, "b", "b", 1, "a"))
        self.assertIs(restless_holds(oracle.TURNS, 1, (1, 2), rows), True)
        self.assertIs(restless_holds(oracle.TURNS, 1, (1, 2), tuple((*row[:3], row[3] + 5, row[4]) for row in rows)), True)
        # A scene to which nothing leads, and one without an answer to its letter, of which nothing is asked.
        for row, holds in (((1, "", "", 10 ** 39, "b"), True), ((1, "", "", 0, "b"), True), ((1, "", "", 2, "a"), True),
                           ((1, "", "", 1, "a"), False), ((1, "", "", 0, "a"), False), ((1, "", "", -1, "b"), False),
                           ((1, "", "", 0, "c"), False), ((1, "", "", 0, ""), False), ((1, "", "", 0, "ab"), False),
                           ((1, "", "", 0, None), False), ((1, "", "", 0, ("b",)), False), ((True, "", "", 0, "b"), False),
                           ((1, "", "", True, "b"), False), ((1, "", "", 0), False), ((1, "", "", 0, "b", 0), False),
                           ((1, "b", "a", 0, "b"), False), ((1, "aa", "aa", 0, "b"), False), ([1, "", "", 0, "b"], False)):
            thing = rows[:3] + (row,) + rows[3:]
            self.assertIs(restless_holds(oracle.TURNS, 1, (1, 2), thing), holds, row)
            self.assertIs(oracle_calm.restless_holds(oracle.TURNS, 1, (1, 2), thing), holds, row)
        for wrong in (list(rows), rows[1:], rows[:6], rows[::-1], rows + rows[6:], ((0, "", "", 0, "a"),) + rows[1:],
                      rows[:1] + ((0, "", "", 2, "a"),) + rows[1:], ()):
            self.assertIs(restless_holds(oracle.TURNS, 1, (1, 2), wrong), False, wrong)

    def test_any_values(self):
        for rules in FULL:
            for thing in odd.VALUES + ((odd.VALUES,), ((0, "", "", 0, odd.DEEP),), ((0, "", "", 0, ("a", odd.DEEP)),),
                                       ((0, odd.DEEP, "", 0, "a"),), ((0, "", "", 0, {}),), ((0, "", {}, 0, "a"),)):
                self.assertIs(calm_holds(rules, 1, (1, 1), thing), False)
                self.assertIs(restless_holds(rules, 1, (1, 1), thing), False)


class ShownTest(unittest.TestCase):
    def by_hand(self, rules, reach, cells, speech):
        """What is shown, and the cost of all answers, scene by scene."""
        table = {cell[:3]: cell[4] for cell in cells}
        scene, fixed, told, spent = (0, "", ""), "", [""], 0
        for letter in speech:
            answer = table[scene][rules.heard.index(letter)]
            told.append(fixed + answer)
            spent += oracle_calm.cost(scene[2], answer)
            fixed += answer[:1] if len(answer) > reach else ""
            scene = oracle_calm.behind(rules, reach, scene, letter, answer)
        return tuple(told), spent

    def test_each_caption_is_right(self):
        for rules, reach in samples(92):
            mean = least_mean(rules, reach)
            for cells, (p, q) in ((calm_cells(rules, reach, mean), mean), (calm_cells(rules, reach, (5, 2)), (5, 2)),
                                  (oracle_calm.widest_calm(rules, reach, *mean), mean),
                                  (oracle_calm.widest_calm(rules, reach, 2, 1), (2, 1))):
                most = [cell[3] for cell in cells if cell[:3] == (0, "", "")][0]
                for speech in [*oracle.texts(rules.heard, 4), rules.heard * 12, rules.heard[::-1] * 7]:
                    told = shown_along(rules, reach, cells, speech)
                    self.assertTrue(odd.same_kind(told, self.by_hand(rules, reach, cells, speech)[0]))
                    for many, caption in enumerate(told):
                        self.assertTrue(len(caption) == many and oracle.led(rules, 0, speech[:many], caption) is not None)
                    back = taken_back(told)
                    self.assertEqual(back, self.by_hand(rules, reach, cells, speech)[1])
                    self.assertTrue(q * back <= most + p * len(speech))

    def test_long_speech(self):
        cells = calm_cells(oracle.NEXT, 1, (1, 1))
        told = shown_along(oracle.NEXT, 1, cells, "abb" * 20)
        self.assertEqual(len(told), 61)
        self.assertEqual(told[60][:59], ("abb" * 20)[1:])
        self.assertEqual(shown_along(oracle.NEXT, 1, cells, ""), ("",))


class CallsTest(unittest.TestCase):
    def test_mute_ahead_of_all_else(self):
        for rules in NOT_FULL:
            for call, told in ((least_mean, (0,)), (least_mean, (None,)), (calm_cells, (1, (0, 1))), (calm_cells, (0, None)),
                               (restless_cells, (1, (1, 1))), (restless_cells, (0, None)), (calm_holds, (1, (1, 1), ())),
                               (calm_holds, (0, None, None)), (restless_holds, (1, (1, 1), ())),
                               (restless_holds, (0, None, [{}])), (shown_along, (1, (), "zz")), (shown_along, (1, None, None))):
                with self.assertRaises(Mute) as caught:
                    call(rules, *told)
                self.assertEqual(caught.exception.speech, oracle.first_mute(rules))

    def test_by_name(self):
        self.assertEqual(least_mean(reach=1, rules=oracle.TURNS), (1, 2))
        cells = calm_cells(fraction=(1, 2), reach=1, rules=oracle.TURNS)
        self.assertIs(calm_holds(thing=cells, fraction=(1, 2), reach=1, rules=oracle.TURNS), True)
        self.assertIs(calm_holds(thing=cells, fraction=(1, 3), reach=1, rules=oracle.TURNS), False)
        self.assertEqual(len(shown_along(speech="ab", cells=cells, reach=1, rules=oracle.TURNS)), 3)
        cells = restless_cells(fraction=(1, 2), reach=1, rules=oracle.TURNS)
        self.assertIs(restless_holds(thing=cells, fraction=(1, 2), reach=1, rules=oracle.TURNS), True)
        self.assertIs(restless_holds(thing=cells, fraction=(1, 1), reach=1, rules=oracle.TURNS), False)

    def test_returned_rules(self):
        both = (oracle.TURNS & oracle.NEXT) | oracle.NEXT.least()
        self.assertEqual(least_mean(both, 1), (1, 1))
        self.assertEqual(least_mean(oracle.TURNS.respelled("xy", "kl"), 1), (1, 2))
        self.assertEqual(least_mean(Rules("a", "x", ((("a", "x", 0),),)), 2), (0, 1))


if __name__ == "__main__":
    unittest.main()
