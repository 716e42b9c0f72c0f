"""Over the whole program: where several modules speak of one thing, and that each guarantee of the document holds."""

import random
import unittest
from fractions import Fraction

from pacehouse.captioning import first_caption, is_full, mute, number_of_captions
from pacehouse.classes import class_of, first_pumps
from pacehouse.enough import first_need, is_enough, judge_enough, least_enough
from pacehouse.errors import Broken, NoLag, TooSoon
from pacehouse.exact import can_tell, first_wrong, judge_any_size, judge_size, least_size
from pacehouse.exchanges import judge_need, mended, need
from pacehouse.findings import finding_holds
from pacehouse.house import House, first_broken, keeps
from pacehouse.lateplans import can_be_late, judge_lag, lag_holds, least_lag, written_by
from pacehouse.lists import plain_back, plain_caption
from pacehouse.means import calm_cells, least_mean, restless_cells, shown_along
from pacehouse.never import judge_never, some_lag
from pacehouse.pairs import are_same, compared, is_within, parting
from pacehouse.pieces import is_right_piece, need_of, piece_of
from pacehouse.plain import judge_plain, most_back
from pacehouse.plainmeans import plain_mean
from pacehouse.recordings import Recording
from pacehouse.relays import judge_relay, put_together, relay_holds, relayed, through
from pacehouse.rules import Rules
from pacehouse.shown import taken_back
from pacehouse.studios import Studio
from pacehouse.totals import forced_cells, least_total
from pacehouse.windows import is_let_by, let_by, stops_at
from tests import odd, oracle, oracle_house, oracle_pieces, oracle_plain, oracle_relay
from tests.test_recordings import any_pair

SPEECHES = ("", "a", "b", "ab", "bba", "abab", "aabba", "bbbbb", "abbabaab")


def drawn(seed, count):
    """Full rules that hear a and b, and write a and b."""
    return oracle_house.full_rules()[:count] + oracle.many_full(seed, count // 3, (("ab", "ab"),), most=3)


class GuaranteeTest(unittest.TestCase):
    """The lines of point [3], one by one."""

    def test_the_same_or_parted_and_full_or_mute(self):
        every = oracle_pieces.samples(701, 20)
        for one in every:
            self.assertEqual(is_full(one), mute(one) is None)
            if mute(one) is not None:
                self.assertEqual(number_of_captions(one, 0, mute(one)), 0)
                self.assertTrue(number_of_captions(one, 0, mute(one)[:-1]) > 0)
            for other in every:
                if (one.heard, one.written) == (other.heard, other.written):
                    apart = parting(one, other)
                    self.assertEqual(apart is None, one.least() == other.least())
                    self.assertTrue(apart is None or one.is_right(*apart) != other.is_right(*apart))
                    paper = compared(one, other)
                    self.assertIs(finding_holds((paper[0], str(one), str(other), *paper[1:])), True)
                    self.assertEqual(paper[0] == "same", apart is None)

    def test_a_plan_or_a_baffle_and_some_lag_or_none(self):
        seen = {True: 0, False: 0}
        for rules in drawn(702, 30) + [oracle_house.NEVER]:
            for lag in range(3):
                plan, baffle = oracle.widest_plan(rules, lag), oracle.widest_baffle(rules, lag)
                self.assertNotEqual(lag_holds(rules, lag, plan), lag_holds(rules, lag, baffle))
            if len(first_pumps(rules)) < 60:
                paper = judge_never(rules)
                self.assertIs(finding_holds((paper[0], str(rules), *paper[1:])), True)
                self.assertEqual(some_lag(rules), paper[0] == "ever")
                seen[some_lag(rules)] += 1
                # Where a chain is, no lag has a plan.
                self.assertTrue(paper[0] == "ever" or least_lag(rules, 5) is None)
                self.assertTrue(paper[0] == "never" or least_lag(rules, 5) is not None)
        self.assertTrue(min(seen.values()) > 1, seen)

    def test_one_least_mean_and_a_least_total_or_none(self):
        for rules in drawn(703, 18):
            for reach in (0, 1):
                if not can_be_late(rules, reach):
                    with self.assertRaises(TooSoon) as caught:
                        least_mean(rules, reach)
                    self.assertIs(lag_holds(rules, reach, caught.exception.paper), True)
                    continue
                mean = least_mean(rules, reach)
                above, below = Fraction(*mean) + Fraction(1, 11), Fraction(*mean) - Fraction(1, 11)
                for fraction, calm, restless in ((mean, True, True), (told(above), True, False)) + (
                        ((told(below), False, True),) if below >= 0 else ()):
                    self.assertEqual(calm_cells(rules, reach, fraction) is not None, calm)
                    self.assertEqual(restless_cells(rules, reach, fraction) is not None, restless)
                total = least_total(rules, reach)
                self.assertEqual(total is not None, mean == (0, 1))
                self.assertEqual(total == 0, can_be_late(rules, 0))
                if total is not None:
                    self.assertIsNone(forced_cells(rules, reach, total + 1))
                    self.assertTrue(calm_cells(rules, reach, (0, 1))[0][3] >= total)
                self.assertTrue(total == 0 or forced_cells(rules, reach, total or 3) is not None)

    def test_sizes_tell_or_let_by(self):
        for rules in oracle_pieces.samples(704, 20):
            least = least_size(rules)
            self.assertEqual(judge_any_size(rules)[0], "never" if least is None else "tells")
            for size in (1, 2, 3):
                wrong = first_wrong(rules, size)
                self.assertEqual(wrong is None, least is not None and least <= size)
                self.assertEqual(wrong is None, are_same(rules, let_by(rules, size)))
                self.assertEqual(judge_size(rules, size)[0], "tells" if can_tell(rules, size) else "wrong")
                self.assertTrue(wrong is None or (is_let_by(rules, size, *wrong) and not rules.is_right(*wrong)))

    def test_needs_meet_worths_and_numbers_are_enough_or_not(self):
        for rules in drawn(705, 24):
            for size in (1, 2):
                other = let_by(rules, size)
                for number in (0, 1, 2):
                    paper = judge_enough(rules, other, number)
                    pair = first_need(rules, other, number)
                    self.assertEqual((paper[0] == "enough", is_enough(rules, other, number)), (pair is None, pair is None))
                    self.assertTrue(pair is None or need(rules, *pair) > number)
                    self.assertIs(keeps(rules, ("mends", size, number)), pair is None)
                self.assertEqual(least_enough(rules, other, 0) == 0, can_tell(rules, size))
            for speech in SPEECHES:
                paper = judge_need(rules, speech, "q" * len(speech))
                self.assertEqual(min(x for x in paper[2][-1] if x is not None), need(rules, speech, "q" * len(speech)))

    def test_most_at_once_or_a_ring(self):
        seen = {"ring": 0, "within": 0}
        for rules in oracle_plain.FULL + drawn(706, 40):
            paper = judge_plain(rules)
            seen[paper[0]] += 1
            self.assertIs(finding_holds((paper[0], str(rules), *paper[1:])), True)
            self.assertEqual(most_back(rules) is None, paper[0] == "ring")
            self.assertEqual(plain_mean(rules) is None, paper[0] == "ring")
            # Never both: no number has lists where there is a ring.
            for number in range(4):
                lists = oracle_plain.met_lists(rules, number)
                kept = lists is not None and finding_holds(("within", str(rules), number, tuple(sorted(lists))))
                self.assertEqual(kept, paper[0] == "within" and number >= most_back(rules))
                self.assertIs(keeps(rules, ("plain", number)), kept)
        self.assertTrue(min(seen.values()) > 5, seen)

    def test_relays(self):
        for one, other in oracle_relay.full_couples(707, 20):
            for lags in ((0, 0), (0, 1), (1, 1), (1, 2)):
                paper = judge_relay(one, other, *lags)
                holds = [relay_holds(one, other, *lags, told) for told in (
                    oracle_relay.widest_plan(one, other, lags), oracle_relay.widest_baffle(one, other, lags))]
                self.assertEqual(holds, [paper[0] == "plan", paper[0] == "baffle"])
                if paper[0] == "plan":
                    self.assertIs(finding_holds(("relay", str(one), str(other), *lags, paper[1])), True)
                    whole = through(one, other)
                    self.assertIs(can_be_late(whole, lags[1]), True)
                    speech = (one.heard * 9)[:9]
                    self.assertTrue(whole.is_right(speech, relayed(one, other, paper[1], speech)[1]))

    def test_pieces_and_recordings(self):
        rng = random.Random(708)
        for rules in oracle_pieces.samples(708, 15):
            pair = any_pair(rng, rules, 14)
            recording = Recording(rules, *any_pair(rng, rules, 6))
            recording.change(0, 6, *pair)
            cut = rng.randint(0, 14)
            joined = recording.stretch(0, cut) + recording.stretch(cut, 14)
            self.assertTrue(joined == piece_of(rules, *pair))
            self.assertEqual((need_of(joined), is_right_piece(joined)), (recording.need_now, recording.right_until == 14))
            self.assertEqual(recording.need_now, oracle_pieces.need(rules, *pair))
            for k in (1, 2, 3):
                stop = stops_at(rules, k, *pair)
                stops = recording.stops(k)
                self.assertEqual(stop is None, stops == ())
                self.assertTrue(stop is None or stops[0] == 0 or stops[0] + k == stop)

    def test_houses_and_studios(self):
        rng = random.Random(709)
        for rules in drawn(709, 30):
            house = House()
            promises = tuple(promise for promise in oracle_house.PROMISES if keeps(rules, promise))
            house.found("name", rules, promises)
            self.assertIsNone(first_broken(rules, promises))
            lag = least_lag(rules, 5)
            if lag is None:
                with self.assertRaises(NoLag):
                    house.cast("name", "ab")
                continue
            self.assertEqual(("lag", lag) in promises, lag <= 2)
            for other in drawn(709, 30)[:12]:
                try:
                    house.bring("name", other)
                    self.assertTrue(all(keeps(other, promise) for promise in promises))
                except Broken as error:
                    self.assertFalse(keeps(other, error.promise))
            speech = "".join(rng.choice("ab") for _ in range(20))
            caption = house.cast("name", speech)
            self.assertIs(house.stands(0), True)
            self.assertTrue(house.in_use("name").is_right(speech, caption))


def told(fraction):
    return fraction.numerator, fraction.denominator


class TogetherTest(unittest.TestCase):
    """Where several modules speak of one thing."""

    def test_a_plan_and_a_studio(self):
        """A studio writes as some plan does: what is written and shown in the end is right, and stays."""
        for rules in drawn(711, 30):
            for lag in (0, 1, 2):
                paper = judge_lag(rules, lag)
                if paper[0] == "baffle":
                    with self.assertRaises(NoLag):
                        Studio(rules, lag)
                    continue
                for speech in SPEECHES:
                    studio = Studio(rules, lag)
                    written = studio.hear(speech)
                    whole = written + studio.end()
                    self.assertEqual(whole, studio.shown_now)
                    self.assertTrue(rules.is_right(speech, whole) and rules.is_right(speech, written_by(rules, paper[1], speech)))
                    self.assertEqual(first_caption(rules, rules.led(0, speech[:len(written)], written), studio.waits), studio.end())

    def test_taking_back(self):
        """Point [12]: who takes back at most the last r signs can do so exactly if there is a plan of the lag r."""
        for rules in drawn(712, 24):
            for reach in (0, 1):
                if can_be_late(rules, reach):
                    cells = calm_cells(rules, reach, least_mean(rules, reach))
                    studio = Studio(rules, reach)
                    for speech in SPEECHES:
                        shown = shown_along(rules, reach, cells, speech)
                        self.assertTrue(all(rules.is_right(speech[:at], caption) for at, caption in enumerate(shown)))
                        self.assertTrue(all(taken_back(shown[at:at + 2]) <= reach for at in range(len(shown) - 1)))
                        self.assertIsNotNone(studio.hear(speech))

    def test_the_plain_captioner(self):
        for rules in drawn(713, 40):
            most = most_back(rules)
            for speech in SPEECHES:
                shown = tuple(plain_caption(rules, speech[:at]) for at in range(len(speech) + 1))
                backs = plain_back(rules, speech)
                self.assertEqual(taken_back(shown), sum(backs))
                self.assertTrue(most is None or max(backs, default=0) <= most)
            if most is not None:
                self.assertIs(can_be_late(rules, most), True)

    def test_needs_pieces_recordings_and_findings(self):
        rng = random.Random(714)
        for rules in drawn(714, 24):
            for many in (0, 1, 5, 9):
                speech, caption = any_pair(rng, rules, many)
                least = need(rules, speech, caption)
                recording = Recording(rules, speech, caption)
                self.assertEqual((recording.need_now, need_of(piece_of(rules, speech, caption))), (least, least))
                self.assertEqual(least == 0, rules.is_right(speech, caption))
                good = mended(rules, speech, caption)
                self.assertTrue(rules.is_right(speech, good))
                recording.change(0, many, speech, good)
                self.assertEqual((recording.need_now, recording.right_until), (0, many))
                self.assertIs(finding_holds(("need", str(rules), speech, caption, *judge_need(rules, speech, caption)[1:])), True)
                self.assertEqual(piece_of(rules, speech, caption).led_class, class_of(rules, speech))

    def test_promises_and_findings(self):
        """Each paper that a promise is not kept is a finding that holds; so is a paper that it is kept."""
        seen = {}
        for rules in drawn(715, 40):
            text = str(rules)
            for promise in oracle_house.PROMISES:
                broken = first_broken(rules, (promise,))
                if broken is None:
                    finding = self.good_finding(rules, promise)
                else:
                    finding = self.bad_finding(text, rules, promise, broken[1])
                if finding is not None:
                    seen[finding[0]] = seen.get(finding[0], 0) + 1
                    self.assertIs(finding_holds(finding), True, finding)
        self.assertTrue(set(seen) == {"plan", "baffle", "tells", "wrong", "enough", "needs", "ring", "within"}, seen)

    def good_finding(self, rules, promise):
        text = str(rules)
        if promise[0] == "lag":
            return ("plan", text, promise[1], judge_lag(rules, promise[1])[1])
        if promise[0] == "window":
            return ("tells", text, promise[1], judge_size(rules, promise[1])[1])
        if promise[0] == "mends":
            other = let_by(rules, promise[1])
            return ("enough", text, str(other), promise[2], judge_enough(rules, other, promise[2])[1])
        return ("within", text, promise[1], tuple(sorted(oracle_plain.met_lists(rules, promise[1]))))

    def bad_finding(self, text, rules, promise, paper):
        if paper[0] == "back":
            self.assertTrue(plain_back(rules, paper[1])[-1] > promise[1])
            return None
        if paper[0] == "needs":
            return ("needs", text, str(let_by(rules, promise[1])), promise[2], *paper[1:])
        if paper[0] == "ring":
            return (paper[0], text, *paper[1:])
        return (paper[0], text, promise[1], *paper[1:])

    def test_relays_of_rules_with_themselves(self):
        for rules in drawn(716, 20):
            lag = least_lag(rules, 1)
            if lag is not None:
                cells = judge_lag(rules, lag)[1]
                together = put_together(rules, rules, cells, cells)
                self.assertIs(relay_holds(rules, rules, lag, 2 * lag, ("plan", together)), True)
                for speech in SPEECHES:
                    middle, caption = relayed(rules, rules, together, speech)
                    self.assertTrue(rules.is_right(speech, middle) and rules.is_right(middle, caption))
                    self.assertTrue(through(rules, rules).is_right(speech, caption))

    def test_rules_from_texts_and_from_others(self):
        for one, other in zip(drawn(717, 30), drawn(718, 30)):
            both, either = one & other, one | other
            for rules in (one, both, either, one.least(), let_by(one, 2), through(one, other)):
                again = Rules.read(str(rules))
                self.assertTrue(again == rules and str(again) == str(rules))
            self.assertTrue(is_within(both, one) and is_within(other, either))
            self.assertTrue(is_full(either))
            self.assertTrue(least_lag(either, 2) is None or least_lag(one, 2) is None or least_lag(either, 2) <= least_lag(one, 2))

    def test_the_same_call_again(self):
        for rules in drawn(719, 20):
            text = str(rules)
            for call, parts in ((judge_plain, ()), (plain_mean, ()), (most_back, ()), (judge_relay, (rules, 0, 1)), (through, (rules,)),
                                (keeps, (("lag", 1),)), (first_broken, (oracle_house.PROMISES,)), (piece_of, ("ab", "qz"))):
                first, second = call(rules, *parts), call(rules, *parts)
                self.assertTrue(first == second)
                if isinstance(first, tuple):
                    self.assertTrue(odd.same_kind(first, second))
            self.assertEqual(str(rules), text)


if __name__ == "__main__":
    unittest.main()
