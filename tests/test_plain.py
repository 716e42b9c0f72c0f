"""Rings of the plain captioner, papers with capped lists, and the most signs that are ever taken back at once."""

import unittest
from unittest import mock

from pacehouse.cappedlists import first_back
from pacehouse.errors import Mute
from pacehouse.lateplans import can_be_late
from pacehouse.lists import plain_back
from pacehouse.orders import met_orders
from pacehouse.plain import judge_plain, most_back, plain_holds
from pacehouse.rules import Rules
from tests import odd, oracle, oracle_plain
from tests.test_shown import NOT_FULL


def samples(seed, count):
    return oracle_plain.FULL + oracle_plain.many_plain(seed, count)


class PapersTest(unittest.TestCase):
    def test_clause_by_clause(self):
        seen = {"ring": 0, "within": 0}
        shapes = set()
        for rules in samples(401, 200):
            told = str(rules)
            paper = judge_plain(rules)
            seen[paper[0]] += 1
            self.assertTrue(oracle_plain.plain_holds(rules, paper))
            self.assertIs(plain_holds(rules, paper), True)
            self.assertTrue(odd.same_kind(judge_plain(rules), paper))
            self.assertEqual(str(rules), told)
            if paper[0] == "ring":
                shapes.add((len(paper[2]) > 1, len(paper[3]) > 1, paper[4] > 1))
        self.assertTrue(min(seen.values()) > 40, seen)
        self.assertTrue(len(shapes) > 4, shapes)

    def test_rings_take_back_more_and_more(self):
        """Behind ahead, n loops and the text but its last letter, the last letter takes back more than n signs."""
        rings = 0
        for rules in samples(402, 150):
            paper = judge_plain(rules)
            if paper[0] == "ring":
                rings += 1
                self.assertIsNone(most_back(rules))
                _, ahead, loop, behind, _ = paper
                numbers = [plain_back(rules, ahead + loop * times + behind)[-1] for times in (1, 2, 3, 12)]
                self.assertTrue(all(number > times for number, times in zip(numbers, (1, 2, 3, 12))), (paper, numbers))
                self.assertTrue(numbers[0] < numbers[1] < numbers[2] < numbers[3])
        self.assertTrue(rings > 30)

    def test_most_back_beside_all_short_speeches(self):
        found = {}
        for rules in samples(403, 150):
            most = most_back(rules)
            self.assertEqual(most is None, judge_plain(rules)[0] == "ring")
            backs = [max(plain_back(rules, speech), default=0)
                     for speech in oracle.texts(rules.heard, 6 if len(rules.heard) < 3 else 4)]
            if most is None:
                continue
            self.assertEqual(judge_plain(rules)[1], most)
            self.assertTrue(max(backs) <= most)
            # No lesser number is kept by all speeches: its capped lists come to where more is taken back.
            self.assertTrue(oracle_plain.met_lists(rules, most) is not None)
            self.assertTrue(most == 0 or oracle_plain.met_lists(rules, most - 1) is None)
            found.setdefault(most, set()).add(max(backs) == most)
            self.assertIs(can_be_late(rules, most), True)
        self.assertTrue(set(found) >= {0, 1, 2, 3}, found)
        self.assertTrue(all(True in reached for reached in found.values()), found)

    def test_lists_are_those_of_speeches(self):
        """The capped list of each short speech is one of the paper."""
        for rules in samples(404, 40):
            paper = judge_plain(rules)
            if paper[0] == "within":
                for speech in oracle.texts(rules.heard, 4):
                    told = oracle_plain.oracle_mending.list_from(oracle_plain.oracle_mending.firsts(rules, speech))
                    self.assertIn(oracle_plain.capped(told, paper[1]), paper[2])

    def test_however_many_orders_are_looked_at_first(self):
        """Rings are looked for in the first orders, and then in more of them: of few ones at first the same is told."""
        many = 0
        for rules in samples(407, 60):
            most = most_back(rules)
            for few in (1, 2, 5, 10 ** 6):
                with mock.patch("pacehouse.orders.FEW", few):
                    self.assertEqual(most_back(rules), most)
                    paper = judge_plain(rules)
                    self.assertEqual(paper[0] == "ring", most is None)
                    self.assertTrue(oracle_plain.plain_holds(rules, paper))
            many += len(met_orders(rules, 10 ** 6)[0]) > 5
        self.assertTrue(many > 20)

    def test_first_speech_that_takes_back_more(self):
        seen = 0
        for rules in samples(408, 60):
            for number in range(4):
                speech = first_back(rules, number)
                most = most_back(rules)
                self.assertEqual(speech is None, most is not None and most <= number)
                if speech is not None and len(speech) <= 5:
                    seen += 1
                    short = [told for told in oracle.texts(rules.heard, 5) if max(plain_back(rules, told), default=0) > number]
                    self.assertEqual(speech, short[0])
                self.assertTrue(speech is None or plain_back(rules, speech)[-1] > number)
        self.assertTrue(seen > 60)

    def test_known(self):
        self.assertEqual(judge_plain(oracle.ANY), ("within", 0, (((0, 0),),)))
        self.assertEqual(judge_plain(oracle.NEXT), ("within", 1, (((0, 0),), ((1, 0), (2, 1)))))
        self.assertEqual(most_back(oracle.END), 0)
        self.assertEqual(judge_plain(oracle.END)[:2], ("within", 0))
        # Forks of captions that will never be shown grow without end: they are capped.
        self.assertIn(((0, 0), (1, 1)), judge_plain(oracle.END)[2])
        self.assertEqual(most_back(oracle.LATER), 2)
        self.assertEqual(judge_plain(oracle.PROMISE)[0], "ring")
        self.assertIsNone(most_back(oracle.FAR))

    def test_returned_rules(self):
        seen = 0
        for one, other in zip(samples(405, 160), samples(406, 160)):
            whole = one | other if (one.heard, one.written) == (other.heard, other.written) else one.flipped().flipped()
            if len(whole) < 10:
                seen += len(whole) > 4
                paper = judge_plain(whole)
                self.assertTrue(oracle_plain.plain_holds(whole, paper))
                self.assertIs(plain_holds(whole, paper), True)
        self.assertTrue(seen > 5, seen)


class HoldsTest(unittest.TestCase):
    def test_rings_of_other_texts(self):
        seen = {True: 0, False: 0}
        for rules in samples(411, 40):
            for ahead in oracle.texts(rules.heard, 2):
                for loop in oracle.texts(rules.heard, 2):
                    for behind in oracle.texts(rules.heard, 2):
                        for k in (0, 1, 2):
                            thing = ("ring", ahead, loop, behind, k)
                            told = oracle_plain.plain_holds(rules, thing)
                            self.assertIs(plain_holds(rules, thing), told, (str(rules), thing))
                            seen[told] += 1
                            if told:
                                self.assertIsNone(most_back(rules))
        self.assertTrue(min(seen.values()) > 100, seen)

    def test_longer_rings(self):
        for rules in samples(412, 100):
            paper = judge_plain(rules)
            if paper[0] == "ring":
                _, ahead, loop, behind, k = paper
                for thing, holds in ((("ring", ahead + loop, loop * 2, behind, k), True), (("ring", ahead, loop * 40, behind, k), True),
                                     (("ring", ahead, loop, loop * 3 + behind, k), True), (("ring", ahead + loop * 500, loop, behind, k), True),
                                     (("ring", ahead, "", behind, k), False), (("ring", ahead, loop, "", k), False),
                                     (("ring", ahead, loop, behind, 10 ** 39), False), (("ring", ahead, loop, behind, len(rules)), False)):
                    self.assertIs(plain_holds(rules, thing), holds, thing)
                    self.assertIs(oracle_plain.plain_holds(rules, thing) if len(ahead) < 9 and len(thing[1]) < 50 else holds, holds)

    def test_greater_numbers_and_lists_of_no_speech(self):
        seen = more = 0
        for at, rules in enumerate(samples(413, 60)):
            most = most_back(rules)
            for number in range(5):
                lists = oracle_plain.widest_lists(rules, number, at * 5 + number)
                self.assertEqual(lists is None, most is None or most > number)
                if lists is None:
                    continue
                seen += 1
                more += len(lists) > len(oracle_plain.met_lists(rules, number))
                self.assertIs(plain_holds(rules, ("within", number, lists)), True)
                met = tuple(sorted(oracle_plain.met_lists(rules, number)))
                self.assertIs(plain_holds(rules, ("within", number, met)), True)
                for other in (number - 1, number + 1, 9, 10 ** 39, True, None):
                    thing = ("within", other, lists)
                    self.assertIs(plain_holds(rules, thing), oracle_plain.plain_holds(rules, thing))
                for place in range(len(met)):
                    self.assertIs(plain_holds(rules, ("within", number, met[:place] + met[place + 1:])), False)
        self.assertTrue(seen > 100 and more > 30, (seen, more))

    def test_lists_put_otherwise(self):
        lists = (((0, 0),), ((1, 0), (2, 1)))
        self.assertIs(plain_holds(oracle.NEXT, ("within", 1, lists)), True)
        for told, holds in (
                (lists[::-1], False), (lists[:1], False), (lists[1:], False), ((), False), (list(lists), False),
                (lists + lists[1:], False), (lists + (((2, 0), (1, 1)),), True), (lists + (((2, 0), (1, 2)),), False),
                ((((0, 0),), ((1, 0), (2, 1)), ((1, 0), (2, 2))), False), ((((0, 0),), ((1, 0), (2, 0))), False),
                ((((0, 0),), ((1, 1), (2, 1))), False), ((((0, 0),), ((1, False), (2, 1))), False),
                ((((0, 0),), ((1, 0), (2, True))), False), ((((False, 0),), ((1, 0), (2, 1))), False),
                ((((0, 0),), ((1, 0), (1, 1))), False), (((), *lists), False), (lists + (((3, 0),),), False),
                ((((-1, 0),), *lists), False), ((lists[0], list(lists[1])), False), ((lists[0], ([1, 0], (2, 1))), False),
                ((lists[0], ((1, 0, 0), (2, 1))), False), ((lists[0], ((1,), (2, 1))), False), ((lists[0], (None, (2, 1))), False),
                ((lists[0], ((1, None), (2, 1))), False), (((1, 0),), False), (None, False), (("", "a"), False),
                # A list at which the letter a leads no state on; one at which a b takes nothing back.
                (lists + (((2, 0),),), False), ((lists[0], ((1, 0),), lists[1]), False)):
            thing = ("within", 1, told)
            self.assertIs(oracle_plain.plain_holds(oracle.NEXT, thing), holds, told)
            self.assertIs(plain_holds(oracle.NEXT, thing), holds, told)
        self.assertIs(plain_holds(oracle.NEXT, ("within", 2, (((0, 0),), ((1, 0), (2, 1)), ((1, 0), (2, 3))))), False)
        self.assertIs(plain_holds(oracle.NEXT, ("within", 3, (((0, 0),), ((1, 0), (2, 1)), ((1, 0), (2, 3))))), True)
        self.assertIs(plain_holds(oracle.ANY, ("within", 0, (((0, 0),),))), True)
        self.assertIs(plain_holds(oracle.END, ("within", 0, (((0, 0),), ((0, 0), (1, 1))))), True)
        self.assertIs(plain_holds(oracle.END, ("within", 0, (((0, 0),), ((0, 0), (1, 2))))), False)

    def test_forks_from_one_but_nought_at_first(self):
        """Lists that come of no speech, at which each letter leads to lists of the paper: their own forks must be right, too."""
        rules = Rules("a", "xy", ((("a", "x", 0),), (("a", "y", 1),)))
        for number, lists, holds in (
                (0, (((0, 0),), ((0, 0), (1, 1))), True), (0, (((0, 0),), ((0, 0), (1, 0)), ((0, 0), (1, 1))), False),
                (1, (((0, 0),), ((0, 1),)), False), (1, (((0, 0),), ((0, 0), (1, 1)), ((0, 0), (1, 2))), True),
                (1, (((0, 0),), ((0, -1),)), False), (1, (((0, -1),), ((0, 0),)), False), (2, (((0, 0),), ((0, 0), (1, 3))), True),
                (2, (((0, 0),), ((0, 0), (1, 4))), False), (9, (((0, 0),), ((1, 0),)), True), (9, (((0, 0),), ((1, 1),)), False)):
            thing = ("within", number, lists)
            self.assertIs(oracle_plain.plain_holds(rules, thing), holds, thing)
            self.assertIs(plain_holds(rules, thing), holds, thing)

    def test_kinds_of_parts_of_rings(self):
        ring = ("ring", "a", "a", "b", 1)
        self.assertIs(plain_holds(oracle.PROMISE, ring), True)
        for thing in (list(ring), ring[:4], ring + (1,), ("Ring",) + ring[1:], ("ring", "a", "a", "b", True), ("ring", "a", "a", "b", 0),
                      ("ring", "a", "a", "b", -1), ("ring", "a", "a", "b", 2), ("ring", "a", "a", "b", "1"), ("ring", "a", "a", "b", None),
                      ("ring", "", "a", "b", 1), ("ring", "a", "b", "b", 1), ("ring", "a", "a", "a", 1), ("ring", "c", "a", "b", 1),
                      ("ring", "a", "c", "b", 1), ("ring", "a", "a", "c", 1), ("ring", ("a",), "a", "b", 1), ("ring", "a", ["a"], "b", 1),
                      ("ring", "a", "a", ("b",), 1), ("ring", None, "a", "b", 1), ("ring", "A", "a", "b", 1), ("ring", "a\n", "a", "b", 1),
                      (["ring"], "a", "a", "b", 1), ("within", "a", "a", "b", 1), ("ring", "a", "a", "bb", 1)):
            self.assertIs(plain_holds(oracle.PROMISE, thing), False, thing)
        for thing in (("ring", "aa", "a", "b", 1), ("ring", "a", "aaa", "b", 1), ("ring", "a", "a", "aab", 1), ("ring", "b", "a", "b", 1)):
            self.assertIs(plain_holds(oracle.PROMISE, thing), True, thing)

    def test_one_thing_otherwise(self):
        seen = {True: 0, False: 0}
        for at, rules in enumerate(samples(414, 60)):
            papers = [judge_plain(rules)]
            lists = oracle_plain.widest_lists(rules, 2, at, 4)
            papers += [("within", 2, lists)] if lists else []
            for paper in papers:
                for thing in odd.variants(paper, at, 40):
                    told = oracle_plain.plain_holds(rules, thing)
                    seen[told] += 1
                    self.assertIs(plain_holds(rules, thing), told, (str(rules), thing))
        self.assertTrue(min(seen.values()) > 80, seen)

    def test_any_values(self):
        more = (("within", 0), ("within", 0, None), ("within", None, ()), ("within", 0, (odd.DEEP,)), ("within", 0, ((odd.DEEP,),)),
                ("within", 0, (((0, odd.DEEP),),)), ("within", 0, (((odd.DEEP, 0),),)), ("within", 0, (((0, 0),),), 0), odd.DEEP,
                ("ring", odd.DEEP, "a", "b", 1), ("ring", "a", "a", "b", odd.DEEP), ("ring", {}, [], (), None), ["within", 0, ()],
                ("within", 0, (({}, 0),)), ("within", 0, ({(0, 0): 1},)), ("ring", "a" * 2000, "a" * 2000, "b" * 2000, 10 ** 39),
                ("within", 0, ("ab",)), ("within", 0, (("ab", "cd"),)))
        for rules in samples(415, 10):
            for thing in odd.VALUES + more:
                self.assertIs(plain_holds(rules, thing), oracle_plain.plain_holds(rules, thing))


class CallsTest(unittest.TestCase):
    def test_mute_ahead_of_all_else(self):
        for rules in NOT_FULL:
            for call, told in ((judge_plain, ()), (most_back, ()), (plain_holds, (None,)), (plain_holds, (("ring", "a", "a", "b", 1),)),
                               (plain_holds, (("within", 0, [{}]),))):
                with self.assertRaises(Mute) as caught:
                    call(rules, *told)
                self.assertEqual(caught.exception.speech, oracle.first_mute(rules))

    def test_by_name(self):
        told = str(oracle.NEXT)
        for _ in range(2):
            paper = judge_plain(rules=oracle.NEXT)
            self.assertIs(plain_holds(thing=paper, rules=oracle.NEXT), True)
            self.assertEqual(most_back(rules=oracle.NEXT), 1)
        self.assertEqual(str(oracle.NEXT), told)
        self.assertIs(plain_holds(Rules("a", "x", ((("a", "x", 0),),)), ("within", 0, (((0, 0),),))), True)


if __name__ == "__main__":
    unittest.main()
