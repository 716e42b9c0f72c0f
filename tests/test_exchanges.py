"""Needs, mended captions, the signs that stand in them, and papers that tell a need."""

import unittest

from pacehouse.errors import Mute
from pacehouse.exchanges import fewest_signs, judge_need, mended, need, need_holds
from pacehouse.rules import Rules
from tests import odd, oracle, oracle_mending
from tests.test_shown import NOT_FULL

LONG = (("ab" * 30, "a" * 60), ("abb" * 20, "bba" * 20), ("a" * 60, "xyzab" * 12), ("b" * 30 + "a" * 30, "ba" * 30))


def samples(seed, count):
    return oracle_mending.FULL + oracle_mending.many_full(seed, count)


def short_pairs(rules, most):
    """All speeches of at most so many letters with captions of letters of the rules and one that they do not write."""
    for speech in oracle.texts(rules.heard, most):
        for caption in oracle_mending.captions_of(rules.written[:2] + "q", len(speech)):
            yield speech, caption


class NeedTest(unittest.TestCase):
    def test_beside_all_right_captions(self):
        found = set()
        for rules in samples(301, 20):
            told = str(rules)
            for speech, caption in short_pairs(rules, 3):
                every = oracle_mending.mended_captions(rules, speech, caption)
                least = oracle_mending.exchanges(every[0], caption)
                self.assertTrue(odd.same_kind(need(rules, speech, caption), least))
                self.assertEqual(mended(rules, speech, caption), every[0])
                for place in range(len(speech)):
                    signs = "".join(sorted({text[place] for text in every}))
                    self.assertEqual(fewest_signs(rules, speech, caption, place), signs)
                self.assertEqual(least == 0, rules.is_right(speech, caption))
                found.add(least)
            self.assertEqual(str(rules), told)
        self.assertTrue(found == {0, 1, 2, 3}, found)

    def test_four_and_five_signs(self):
        for rules in samples(302, 12):
            for speech in list(oracle.texts(rules.heard, 5))[-9:]:
                for caption in (rules.written * 5, rules.written[::-1] * 5, rules.written[-1] * 5, "q" * 5, "zab" * 5):
                    caption = caption[:len(speech)]
                    every = oracle_mending.mended_captions(rules, speech, caption)
                    self.assertEqual(need(rules, speech, caption), oracle_mending.exchanges(every[0], caption))
                    self.assertEqual(mended(rules, speech, caption), every[0])
                    for place in range(len(speech)):
                        signs = "".join(sorted({text[place] for text in every}))
                        self.assertEqual(fewest_signs(rules, speech, caption, place), signs)

    def test_sixty_letters(self):
        for rules in samples(303, 8):
            for speech, caption in LONG:
                if rules.heard == "ab":
                    cost, text = oracle_mending.best_mended(rules, speech, caption)
                    self.assertEqual(need(rules, speech, caption), cost)
                    self.assertEqual(mended(rules, speech, caption), text)
                    for place in (0, 17, 59):
                        self.assertEqual(fewest_signs(rules, speech, caption, place),
                                         oracle_mending.fewest_signs(rules, speech, caption, place))

    def test_empty_pair(self):
        for rules in samples(304, 5):
            self.assertTrue(odd.same_kind((need(rules, "", ""), mended(rules, "", "")), (0, "")))
            self.assertIs(need_holds(rules, "", "", judge_need(rules, "", "")), True)
            first = tuple(-4 if state == 0 else None for state in range(len(rules)))
            self.assertIs(need_holds(rules, "", "", ("need", "", (first,))), False)
            self.assertIs(need_holds(rules, "", "", ("need", "", ((0,) * len(rules),))), True)
            self.assertIs(need_holds(rules, "", "", ("need", "a", ((0,) * len(rules),))), False)


class PapersTest(unittest.TestCase):
    def test_row_by_row(self):
        for rules in samples(311, 20):
            for speech, caption in short_pairs(rules, 3):
                paper = judge_need(rules, speech, caption)
                self.assertTrue(oracle_mending.need_holds(rules, speech, caption, paper))
                self.assertIs(need_holds(rules, speech, caption, paper), True)
                self.assertEqual(min(x for x in paper[2][-1] if x is not None), need(rules, speech, caption))
                self.assertEqual(oracle_mending.exchanges(paper[1], caption), need(rules, speech, caption))
                self.assertTrue(odd.same_kind(judge_need(rules, speech, caption), paper))

    def test_sixty_letters(self):
        for rules in samples(312, 8):
            for speech, caption in LONG:
                if rules.heard == "ab":
                    paper = judge_need(rules, speech, caption)
                    self.assertTrue(oracle_mending.need_holds(rules, speech, caption, paper))
                    self.assertIs(need_holds(rules, speech, caption, paper), True)
                    worse = ("need", oracle_mending.firsts(rules, speech)[0], paper[2]) \
                        if 0 in oracle_mending.firsts(rules, speech) else paper
                    self.assertIs(need_holds(rules, speech, caption, worse),
                                  oracle_mending.need_holds(rules, speech, caption, worse))

    def test_any_mended_caption_that_will_do(self):
        seen = {True: 0, False: 0}
        for rules in samples(313, 10):
            for speech, caption in short_pairs(rules, 3):
                worths = judge_need(rules, speech, caption)[2]
                for text in oracle_mending.captions_of(rules.written, len(speech)):
                    told = text in oracle_mending.mended_captions(rules, speech, caption)
                    self.assertIs(need_holds(rules, speech, caption, ("need", text, worths)), told)
                    seen[told] += 1
        self.assertTrue(min(seen.values()) > 100, seen)

    def test_worths_by_other_hands(self):
        paper = ("need", "abba", ((0,), (0,), (1,), (2,), (2,)))
        self.assertIs(need_holds(oracle.ECHO, "abba", "aaaa", paper), True)
        for worths, holds in ((((-3,), (0,), (1,), (2,), (2,)), False), (((0,), (-5,), (-4,), (2,), (2,)), False),
                              (((0,), (0,), (1,), (1,), (1,)), False), (((0,), (0,), (0,), (1,), (2,)), False),
                              (((1,), (0,), (1,), (2,), (2,)), False), (((0,), (0,), (1,), (2,), (3,)), False),
                              (((None,), (0,), (1,), (2,), (2,)), False), (((0,), (None,), (1,), (2,), (2,)), False),
                              (((0,), (0,), (1,), (2,), (None,)), False), (((False,), (0,), (1,), (2,), (2,)), False),
                              (((0,), (0,), (True,), (2,), (2,)), False), (((0,), (0,), (1,), (2,)), False),
                              (((0,), (0,), (1,), (2,), (2,), (2,)), False), (((0, 0), (0,), (1,), (2,), (2,)), False),
                              (((), (0,), (1,), (2,), (2,)), False), (([0], (0,), (1,), (2,), (2,)), False),
                              ([(0,), (0,), (1,), (2,), (2,)], False), (None, False)):
            self.assertIs(need_holds(oracle.ECHO, "abba", "aaaa", ("need", "abba", worths)), holds, worths)
        # One that is right need not have worths that rise: integers below 0 may stand where the need is 0.
        self.assertIs(need_holds(oracle.ECHO, "ab", "ab", ("need", "ab", ((0,), (0,), (0,)))), True)
        self.assertIs(need_holds(oracle.ECHO, "ab", "ab", ("need", "ab", ((-7,), (-7,), (-7,)))), False)
        # States to which nothing leads may have None, or a number, as long as it is borne by what follows.
        rules = Rules("a", "xy", ((("a", "x", 1),), (("a", "x", 1),), (("a", "y", 1),)))
        for first, second, holds in (
                ((0, None, None), (None, 1, None), True), ((0, 10 ** 39, 10 ** 39), (5, 1, 1), True), ((0, 9, 9), (0, 1, 9), False),
                ((0, None, -1), (None, 1, None), False), ((0, None, 1), (None, 1, 1), True), ((0, None, 0), (None, 1, 2), False),
                ((0, None, 1), (-1, 1, None), False), ((0, 0, None), (None, 1, None), True), ((0, -1, None), (None, 1, None), False),
                ((0, None, None), (None, 1, 0), False), ((0, None, None), (7, 1, 7), True), ((-1, None, None), (1, 0, 1), False),
                ((0, None, None), (None, 2, 1), False), ((-1, None, None), (1, 0, None), False)):
            paper = ("need", "x", (first, second))
            self.assertIs(oracle_mending.need_holds(rules, "a", "y", paper), holds, paper)
            self.assertIs(need_holds(rules, "a", "y", paper), holds, paper)
        # Where no move by the letter leads on, integers below 0 hold, too; the numbers of others may be lower than they could be.
        for rows, holds in ((((0, None, None), (None, 1, 0), (None, 0, 1)), True), (((0, None, -7), (None, 1, 0), (None, 0, 1)), True),
                            (((0, -7, None), (None, 1, 0), (None, 0, 1)), False), (((0, None, -7), (None, -9, 0), (None, 0, 1)), True),
                            (((0, None, -7), (0, -9, 0), (None, 0, 0)), True), (((0, None, -7), (-1, -9, 0), (None, 0, 0)), False),
                            (((0, None, -7), (10 ** 39, -10 ** 39, 0), (None, 0, 0)), True),
                            (((0, None, None), (None, 1, -1), (None, -1, 0)), False), (((0, None, None), (None, 1, 0), (None, 0, -1)), False)):
            paper = ("need", "ba", rows)
            self.assertIs(oracle_mending.need_holds(oracle.NEXT, "ab", "ba", paper), holds, paper)
            self.assertIs(need_holds(oracle.NEXT, "ab", "ba", paper), holds, paper)
        # With a first worth below 0 the last row stays below the need.
        rules = Rules("a", "xy", ((("a", "x", 0),),))
        self.assertIs(need_holds(rules, "aa", "yy", ("need", "xx", ((0,), (1,), (2,)))), True)
        self.assertIs(need_holds(rules, "aa", "yy", ("need", "xx", ((-1,), (0,), (1,)))), False)
        self.assertIs(need_holds(rules, "aa", "yy", ("need", "xx", ((-1,), (1,), (2,)))), False)

    def test_one_thing_otherwise(self):
        seen = {True: 0, False: 0}
        for at, rules in enumerate(samples(314, 15)):
            for speech, caption in (("", ""), ("a", "q"), ("aa", rules.written[0] * 2), ("aaa", rules.written[-1] * 3)):
                for thing in odd.variants(judge_need(rules, speech, caption), at, 60):
                    told = oracle_mending.need_holds(rules, speech, caption, thing)
                    self.assertIs(need_holds(rules, speech, caption, thing), told, thing)
                    seen[told] += 1
        self.assertTrue(min(seen.values()) > 60, seen)

    def test_any_values(self):
        more = (("need", "a", ()), ("need", "a", None), ("need", None, ((0,), (1,))), ("need", "a", ((odd.DEEP,), (1,))),
                ("need", odd.DEEP, ((0,), (1,))), ("need", "a"), ("need", "a", ((0,), (0,)), 0), ["need", "a", ((0,), (0,))],
                ("need", ("a",), ((0,), (0,))), ("need", "a", ((0,), {})), ("Need", "a", ((0,), (0,))), (["need"], "a", ()))
        for thing in odd.VALUES + more:
            for rules in oracle_mending.FULL:
                self.assertIs(need_holds(rules, "a", "a", thing), oracle_mending.need_holds(rules, "a", "a", thing))
        self.assertIs(need_holds(oracle.ECHO, "a", "a", ("need", "a", ((0,), (0,)))), True)


class CallsTest(unittest.TestCase):
    def test_mute_ahead_of_all_else(self):
        for rules in NOT_FULL:
            for call, told in ((need, ("a", "a")), (need, (None, None)), (mended, ("", "")), (mended, (None, 1)),
                               (fewest_signs, ("a", "a", 0)), (fewest_signs, ("", "", 9)), (judge_need, ("a", "a")),
                               (judge_need, (None, None)), (need_holds, ("a", "a", ())), (need_holds, (None, None, [{}]))):
                with self.assertRaises(Mute) as caught:
                    call(rules, *told)
                self.assertEqual(caught.exception.speech, oracle.first_mute(rules))

    def test_by_name(self):
        told = str(oracle.NEXT)
        self.assertEqual(need(caption="bba", speech="aab", rules=oracle.NEXT), 1)
        self.assertEqual(mended(caption="bba", speech="aab", rules=oracle.NEXT), "aba")
        self.assertEqual(fewest_signs(place=2, caption="bba", speech="aab", rules=oracle.NEXT), "a")
        paper = judge_need(caption="bba", speech="aab", rules=oracle.NEXT)
        self.assertIs(need_holds(thing=paper, caption="bba", speech="aab", rules=oracle.NEXT), True)
        self.assertIs(need_holds(thing=paper, caption="bab", speech="aab", rules=oracle.NEXT), False)
        self.assertEqual(str(oracle.NEXT), told)

    def test_returned_rules(self):
        rules = oracle.NEXT | oracle.FIRST
        self.assertEqual(need(rules, "aab", "bba"), 1)
        self.assertEqual(mended(rules, "aab", "bba"), oracle_mending.mended_captions(rules, "aab", "bba")[0])


if __name__ == "__main__":
    unittest.main()
