"""The document's examples."""

import unittest

from pacehouse.captioning import captions, mute
from pacehouse.classes import class_of
from pacehouse.enough import enough_holds, first_need, is_enough, judge_enough, worst_needs
from pacehouse.errors import Mute, TooSoon
from pacehouse.exact import (
    any_size_holds, can_tell, first_wrong, inner_states, judge_any_size, judge_size, least_size, size_holds)
from pacehouse.exchanges import fewest_signs, judge_need, mended, need, need_holds
from pacehouse.lateplans import judge_lag, lag_holds, least_lag, written_by
from pacehouse.lists import list_of, plain_back, plain_caption
from pacehouse.means import calm_cells, calm_holds, least_mean, restless_cells, restless_holds, shown_along
from pacehouse.never import judge_never, never_holds, some_lag
from pacehouse.pairs import parting
from pacehouse.pieces import is_right_piece, need_of, piece_of
from pacehouse.plain import judge_plain, most_back, plain_holds
from pacehouse.plainmeans import plain_mean
from pacehouse.recordings import Recording
from pacehouse.relays import can_relay, judge_relay, least_relays, put_together, relay_holds, relayed, through
from pacehouse.rules import Rules
from pacehouse.shown import answers, cost_of, is_scene, scene_behind, taken_back
from pacehouse.totals import forced_cells, forced_holds, least_total
from pacehouse.windows import is_let_by, stops_at
from tests import oracle

NEXT = Rules("ab", "ab", (
    (("a", "a", 1), ("a", "b", 2), ("b", "a", 1), ("b", "b", 2)),
    (("a", "a", 1), ("a", "b", 2)),
    (("b", "a", 1), ("b", "b", 2)),
))
ANY = Rules("ab", "ab", ((("a", "a", 0), ("a", "b", 0), ("b", "a", 0), ("b", "b", 0)),))
FAR = Rules("abx", "ab", (
    (("a", "a", 1), ("a", "b", 2), ("b", "a", 1), ("b", "b", 2), ("x", "a", 1), ("x", "b", 2)),
    (("a", "a", 3), ("x", "a", 1)),
    (("b", "a", 3), ("x", "a", 2)),
    (("a", "a", 3), ("b", "a", 3), ("x", "a", 3)),
))
TURNS = Rules("ab", "ab", (
    (("a", "a", 1), ("a", "b", 2), ("b", "a", 1), ("b", "b", 2)),
    (("a", "a", 0), ("a", "b", 0)),
    (("b", "a", 0), ("b", "b", 0)),
))
ONCE = Rules("ab", "ab", (
    (("a", "a", 1), ("a", "b", 2), ("b", "a", 1), ("b", "b", 2)),
    (("a", "a", 3), ("a", "b", 3)),
    (("b", "a", 3), ("b", "b", 3)),
    (("a", "a", 3), ("a", "b", 3), ("b", "a", 3), ("b", "b", 3)),
))
FIRST = Rules("ab", "ab", (
    (("a", "a", 1), ("a", "b", 2), ("b", "a", 1), ("b", "b", 2)),
    (("a", "a", 1), ("b", "a", 1)),
    (("a", "a", 2), ("b", "b", 2)),
))
ECHO = Rules("ab", "ab", ((("a", "a", 0), ("b", "b", 0)),))
PROMISE = Rules("ab", "ab", (
    (("a", "a", 1), ("a", "b", 2), ("b", "a", 1), ("b", "b", 2)),
    (("a", "a", 1),),
    (("a", "a", 2), ("b", "a", 2)),
))
END = Rules("ab", "ab", (
    (("a", "a", 0), ("a", "b", 1), ("b", "a", 0), ("b", "b", 1)),
    (("a", "b", 1), ("b", "b", 1)),
))
FREE = Rules("ab", "ab", ((("a", "a", 0), ("a", "b", 0), ("b", "a", 0), ("b", "b", 0)),))
LATE = Rules("ab", "ab", ((("a", "a", 1), ("a", "b", 2)), (("a", "a", 1),), (("a", "a", 2), ("b", "a", 2))))


class ExamplesTest(unittest.TestCase):
    def test_right_pairs(self):
        self.assertIs(NEXT.is_right("aab", "abb"), True)
        self.assertIs(NEXT.is_right("aab", "aab"), False)
        self.assertEqual(NEXT.led(0, "aab", "aba"), 1)
        self.assertEqual(captions(NEXT, 0, "ab"), ("ba", "bb"))
        self.assertIsNone(mute(NEXT))
        self.assertEqual(mute(Rules("ab", "x", ((("a", "x", 0),),))), "b")

    def test_text(self):
        rules = Rules("a", "xy", ((("a", "x", 1),), (("a", "y", 0),)))
        self.assertEqual(str(rules), "rules a xy 2\nmove 0 a x 1\nmove 1 a y 0")

    def test_parting(self):
        self.assertEqual(parting(NEXT, ANY), ("ab", "aa"))

    def test_lags_of_next(self):
        self.assertEqual(least_lag(NEXT, 3), 1)
        self.assertEqual(judge_lag(NEXT, 0)[0], "baffle")
        self.assertIs(lag_holds(NEXT, 0, ("baffle", ((0, "", "a", 1), (1, "", "b", 0), (2, "", "a", 0)))), True)
        self.assertEqual(written_by(NEXT, judge_lag(NEXT, 1)[1], "abb"), "bba")
        self.assertEqual(written_by(NEXT, oracle.widest_plan(NEXT, 1)[1], "abb"), "bba")

    def test_far(self):
        told = class_of(FAR, "x")
        self.assertEqual(told, ((1, 2), (1,), (2,), (3,)))
        self.assertIs(some_lag(FAR), False)
        self.assertEqual(judge_never(FAR)[0], "never")
        pump = ("x", "x", "")
        rows = ((0, told, pump, 1), (1, told, ("bb", "b", ""), 0), (2, told, ("aa", "a", ""), 0))
        self.assertIs(never_holds(FAR, ("never", pump, rows)), True)

    def test_other_rules(self):
        self.assertEqual(least_lag(oracle.PROMISE, 2), 0)
        self.assertEqual(mute(oracle.LATE), "b")
        self.assertIsNone(mute(oracle.END))
        self.assertEqual((least_lag(oracle.TURNS, 0), least_lag(oracle.TURNS, 1)), (None, 1))
        self.assertEqual((least_lag(oracle.ONCE, 0), least_lag(oracle.ONCE, 1)), (None, 1))


class CalmTest(unittest.TestCase):
    def test_scenes(self):
        scene = (0, "a", "a")
        self.assertIs(is_scene(NEXT, 1, scene), True)
        self.assertEqual(answers(NEXT, scene, "b"), ("ba", "bb"))
        self.assertEqual(cost_of(scene, "ba"), 1)
        self.assertEqual(scene_behind(NEXT, 1, scene, "b", "ba"), (2, "b", "a"))
        self.assertEqual(scene_behind(NEXT, 2, scene, "b", "ba"), (0, "ab", "ba"))
        self.assertEqual(taken_back(("", "a", "ba", "bab")), 1)

    def test_least_means(self):
        self.assertEqual([least_mean(rules, 1) for rules in (NEXT, TURNS, ONCE)], [(1, 1), (1, 2), (0, 1)])
        for rules in (NEXT, TURNS, ONCE):
            for call, told in ((least_mean, ()), (calm_cells, ((1, 1),)), (restless_cells, ((0, 1),)), (least_total, ()),
                               (forced_cells, (1,))):
                with self.assertRaises(TooSoon) as caught:
                    call(rules, 0, *told)
                self.assertEqual(caught.exception.paper[0], "baffle")
                self.assertIs(lag_holds(rules, 0, caught.exception.paper), True)

    def test_least_totals(self):
        self.assertEqual(least_total(ONCE, 1), 1)
        self.assertIsNone(least_total(TURNS, 1))
        cells = ((0, "", "", 1, 1, "a"), (0, "a", "a", 1, 0, "b"), (0, "a", "b", 1, 0, "a"))
        self.assertIs(forced_holds(ONCE, 1, 1, cells), True)
        self.assertIs(forced_holds(ONCE, 1, 1, forced_cells(ONCE, 1, 1)), True)
        self.assertIsNone(forced_cells(ONCE, 1, 2))

    def test_cells_of_turns(self):
        """Restless cells at (1, 2) give the first scene the number 1, or more; calm ones can give it 0."""
        restless = restless_cells(TURNS, 1, (1, 2))
        self.assertIs(restless_holds(TURNS, 1, (1, 2), restless), True)
        self.assertTrue(restless[0][:3] == (0, "", "") and restless[0][3] >= 1)
        lower = ((*restless[0][:3], 0, restless[0][4]),) + restless[1:]
        self.assertIs(restless_holds(TURNS, 1, (1, 2), lower), False)
        self.assertIs(calm_holds(TURNS, 1, (1, 2), calm_cells(TURNS, 1, (1, 2))), True)
        self.assertIs(calm_holds(TURNS, 1, (1, 2), CALM), True)
        self.assertEqual(CALM[0][:4], (0, "", "", 0))
        self.assertEqual(shown_along(TURNS, 1, CALM, "aabb"), ("", "a", "aa", "aaa", "aaba"))


# Every second letter can be another one than the sign ahead of it told: then this sign is taken back.
CALM = (
    (0, "", "", 0, ("a", "a")),
    (0, "a", "a", 1, ("aa", "ba")),
    (0, "b", "a", 1, ("aa", "ba")),
    (1, "a", "a", 0, ("aa", "aa")),
    (2, "b", "a", 0, ("aa", "aa")),
)


class WatchedTest(unittest.TestCase):
    def test_sizes_of_next(self):
        self.assertEqual(inner_states(NEXT), (1, 2))
        self.assertIs(size_holds(NEXT, 2, ("tells", ((1, 2, 0),))), True)
        self.assertIs(size_holds(NEXT, 2, judge_size(NEXT, 2)), True)
        self.assertEqual(least_size(NEXT), 2)
        self.assertEqual(first_wrong(NEXT, 1), ("ab", "aa"))
        self.assertIsNone(first_wrong(NEXT, 2))
        self.assertEqual(stops_at(NEXT, 2, "ab", "aa"), 2)
        self.assertIsNone(stops_at(NEXT, 1, "ab", "aa"))

    def test_sizes_of_first(self):
        paper = ("never", ("a", "a"), ("a", "b"), ("a", "a"), ("b", "a"))
        self.assertEqual(judge_any_size(FIRST)[0], "never")
        self.assertIs(any_size_holds(FIRST, judge_any_size(FIRST)), True)
        self.assertIs(any_size_holds(FIRST, paper), True)
        self.assertIsNone(least_size(FIRST))
        self.assertEqual(first_wrong(FIRST, 2), ("aab", "aab"))
        self.assertEqual(judge_size(FIRST, 2), ("wrong", "aab", "aab"))
        self.assertIs(FIRST.is_right("aab", "bab"), True)
        self.assertIs(is_let_by(FIRST, 2, "aab", "aab"), True)
        self.assertIs(can_tell(FIRST, 6), False)


class MendedTest(unittest.TestCase):
    def test_needs_of_echo(self):
        self.assertEqual(need(ECHO, "abba", "aaaa"), 2)
        self.assertEqual(mended(ECHO, "abba", "aaaa"), "abba")
        self.assertEqual(fewest_signs(ECHO, "abba", "aaaa", 3), "a")
        paper = ("need", "abba", ((0,), (0,), (1,), (2,), (2,)))
        self.assertIs(need_holds(ECHO, "abba", "aaaa", paper), True)
        self.assertEqual(judge_need(ECHO, "abba", "aaaa"), paper)

    def test_needs_of_next(self):
        self.assertEqual(need(NEXT, "aab", "bba"), 1)
        self.assertEqual(fewest_signs(NEXT, "aab", "bba", 2), "a")
        self.assertEqual(mended(NEXT, "aab", "bba"), "aba")

    def test_enough(self):
        self.assertIs(is_enough(ECHO, NEXT, 2), False)
        self.assertEqual(first_need(ECHO, NEXT, 0), ("a", "b"))
        self.assertEqual(worst_needs(ECHO, ANY, 3), (0, 1, 2, 3))
        self.assertEqual(judge_enough(ANY, ECHO, 0), ("enough", ((0, (0,)),)))
        self.assertIs(enough_holds(ANY, ECHO, 0, ("enough", ((0, (0,)),))), True)


class PlainTest(unittest.TestCase):
    def test_next(self):
        self.assertEqual(plain_caption(NEXT, "ab"), "ba")
        self.assertEqual(list_of(NEXT, "a"), ((1, 0), (2, 1)))
        self.assertEqual(plain_back(NEXT, "abb"), (0, 1, 1))

    def test_promise(self):
        self.assertEqual(plain_back(PROMISE, "aaab"), (0, 0, 0, 3))

    def test_most_at_once_and_in_the_long_run(self):
        self.assertEqual((most_back(rules=NEXT), plain_mean(rules=NEXT)), (1, (1, 1)))
        self.assertEqual((most_back(END), plain_mean(END)), (0, (0, 1)))
        self.assertEqual({plain_caption(END, speech) for speech in ("aaa", "bab", "bbb")}, {"aaa"})

    def test_promise_has_a_ring(self):
        self.assertEqual(least_lag(PROMISE, 2), 0)
        self.assertIs(plain_holds(thing=("ring", "a", "a", "b", 1), rules=PROMISE), True)
        paper = judge_plain(rules=PROMISE)
        self.assertEqual(paper[0], "ring")
        self.assertIs(plain_holds(PROMISE, paper), True)
        self.assertIsNone(most_back(PROMISE))
        self.assertIsNone(plain_mean(PROMISE))

    def test_late_is_not_full(self):
        for call, told in ((list_of, ("a",)), (plain_caption, ("a",)), (plain_back, ("a",)), (judge_plain, ()), (most_back, ()),
                           (plain_mean, ()), (plain_holds, (("ring", "a", "a", "b", 1),))):
            with self.assertRaises(Mute) as caught:
                call(LATE, *told)
            self.assertEqual(caught.exception.speech, "b")


class RelaysTest(unittest.TestCase):
    def test_through_next_and_next(self):
        whole = through(one=NEXT, other=NEXT)
        self.assertIs(whole.is_right("abba", "bab"), False)
        self.assertIs(whole.is_right("abba", "baab"), True)
        self.assertIs(whole.is_right("abba", "bbab"), False)
        self.assertEqual(least_relays(one=NEXT, other=NEXT, most=3), ((1, 2),))
        self.assertIs(can_relay(one=NEXT, other=NEXT, middle_lag=1, lag=2), True)

    def test_next_and_free(self):
        self.assertEqual(least_relays(NEXT, FREE, 3), ((1, 1),))
        self.assertEqual(least_lag(through(NEXT, FREE), 3), 0)
        paper = ("baffle", ((0, "", 0, "", "a", 1), (1, "", 0, "", "b", 0), (2, "", 0, "", "a", 0)))
        self.assertIs(relay_holds(one=NEXT, other=FREE, middle_lag=0, lag=0, thing=paper), True)
        self.assertEqual(judge_relay(one=NEXT, other=FREE, middle_lag=0, lag=0)[0], "baffle")
        self.assertIs(relay_holds(NEXT, FREE, 0, 0, judge_relay(NEXT, FREE, 0, 0)), True)

    def test_put_together(self):
        cells = judge_lag(NEXT, 1)[1]
        found = put_together(one=NEXT, other=NEXT, cells=cells, more=cells)
        self.assertEqual(relayed(one=NEXT, other=NEXT, cells=found, speech="abba"), ("bbaa", "baaa"))
        self.assertIs(relay_holds(NEXT, NEXT, 1, 2, ("plan", found)), True)


class PiecesTest(unittest.TestCase):
    def test_echo(self):
        piece = piece_of(rules=ECHO, speech="ab", caption="aa")
        self.assertEqual((piece.leads_to, piece.costs, piece.led_class), ((None,), ((1,),), ((0,),)))
        joined = piece + piece_of(ECHO, "a", "a")
        self.assertEqual(joined.costs, ((1,),))
        self.assertEqual((need_of(piece=joined), is_right_piece(piece=joined), len(joined)), (1, False, 3))

    def test_next(self):
        piece = piece_of(NEXT, "a", "b")
        self.assertEqual(piece.leads_to, (2, 2, None))
        self.assertEqual(piece.costs, ((None, 1, 0), (None, 1, 0), (None, None, None)))

    def test_recording(self):
        recording = Recording(rules=ECHO, speech="abba", caption="abaa")
        self.assertEqual(recording.right_until, 2)
        self.assertEqual(recording.change(start=2, end=3, speech="a", caption="a"), 0)
        self.assertEqual((recording.right_until, recording.need_now), (4, 0))


if __name__ == "__main__":
    unittest.main()
