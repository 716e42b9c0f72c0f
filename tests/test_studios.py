"""Studios: what is heard, written, shown and taken back."""

import itertools
import random
import unittest

from pacehouse.errors import BadPiece, Mute, NoLag, NothingToUndo
from pacehouse.lateplans import can_be_late, least_lag
from pacehouse.shown import taken_back
from pacehouse.studios import Studio
from tests import odd, oracle
from tests.test_shown import NOT_FULL

FULL = [rules for rules in oracle.NAMED if oracle.first_mute(rules) is None]


def samples(seed, count):
    return FULL + oracle.many_full(seed, count)


def back(one, other):
    """How many signs of one text are not those with which it and another one begin alike."""
    alike = 0
    while alike < min(len(one), len(other)) and one[alike] == other[alike]:
        alike += 1
    return len(one) - alike


class StudioTest(unittest.TestCase):
    def check(self, studio, rules, lag, spoken):
        """All that a studio tells of what it has heard."""
        written, waits = studio.written_now, studio.waits
        self.assertEqual(studio.spoken, spoken)
        self.assertEqual(waits, spoken[max(0, len(spoken) - lag):])
        self.assertEqual(len(written), len(spoken) - len(waits))
        state = oracle.led(rules, 0, spoken[:len(written)], written)
        self.assertIsNotNone(state)
        first = min(caption for caption, _ in oracle.ways(rules, state, waits))
        self.assertEqual(studio.end(), first)
        self.assertEqual(studio.shown_now, written + first)
        self.assertTrue(rules.is_right(spoken, studio.shown_now))
        self.assertEqual((studio.rules, studio.lag), (rules, lag))

    def test_pieces_of_any_length(self):
        rng = random.Random(601)
        seen = 0
        for rules in samples(601, 30):
            for lag in range(4):
                if not can_be_late(rules, lag):
                    continue
                seen += 1
                studio = Studio(rules, lag)
                self.check(studio, rules, lag, "")
                spoken, pieces = "", 0
                while len(spoken) < 40:
                    piece = "".join(rng.choice(rules.heard) for _ in range(rng.choice((0, 1, 1, 2, 3, 7))))
                    before = studio.written_now
                    told = studio.hear(piece)
                    spoken, pieces = spoken + piece, pieces + 1
                    self.assertEqual(before + told, studio.written_now)
                    self.assertEqual(len(studio), pieces)
                    self.check(studio, rules, lag, spoken)
        self.assertTrue(seen > 60)

    def test_letter_by_letter_at_most_the_lag_is_taken_back(self):
        greatest = {}
        for rules in samples(602, 40):
            for lag in range(3):
                if can_be_late(rules, lag):
                    for speech in itertools.product(rules.heard, repeat=5 if len(rules.heard) < 3 else 4):
                        studio = Studio(rules, lag)
                        shown = [studio.shown_now]
                        for letter in speech:
                            studio.hear(letter)
                            self.assertTrue(studio.shown_now.startswith(studio.written_now))
                            shown.append(studio.shown_now)
                        backs = [back(one, other) for one, other in zip(shown, shown[1:])]
                        self.assertTrue(max(backs) <= lag)
                        self.assertEqual(taken_back(tuple(shown)), sum(backs))
                        greatest[lag] = max(greatest.get(lag, 0), *backs)
        self.assertEqual(greatest, {0: 0, 1: 1, 2: 2})

    def test_however_it_is_cut_the_same_is_written(self):
        rng = random.Random(603)
        for rules in samples(603, 15):
            lag = least_lag(rules, 3)
            if lag is None:
                continue
            speech = "".join(rng.choice(rules.heard) for _ in range(60))
            whole = Studio(rules, lag)
            whole.hear(speech)
            for many in (1, 2, 7, 59):
                studio = Studio(rules, lag)
                heard = "".join([studio.hear(speech[at:at + many]) for at in range(0, 60, many)])
                self.assertEqual((heard, studio.end()), (whole.written_now, whole.end()))
                self.assertEqual((studio.waits, studio.shown_now, studio.spoken), (whole.waits, whole.shown_now, speech))

    def test_undo(self):
        rng = random.Random(604)
        for rules in samples(604, 15):
            lag = least_lag(rules, 3)
            if lag is None:
                continue
            studio, past = Studio(rules, lag), []
            for _ in range(60):
                if rng.random() < 0.4 and past:
                    self.assertIsNone(studio.undo())
                    self.assertEqual(self.told(studio), past.pop())
                else:
                    past.append(self.told(studio))
                    studio.hear("".join(rng.choice(rules.heard) for _ in range(rng.choice((0, 1, 2)))))
                self.assertEqual(len(studio), len(past))
            while past:
                studio.undo()
                self.assertEqual(self.told(studio), past.pop())
            self.assertRaises(NothingToUndo, studio.undo)
            self.check(studio, rules, lag, "")

    def told(self, studio):
        return studio.spoken, studio.written_now, studio.waits, studio.shown_now, studio.end(), len(studio)

    def test_end_changes_nothing(self):
        studio = Studio(oracle.NEXT, 1)
        studio.hear("ab")
        told = self.told(studio)
        self.assertEqual([studio.end() for _ in range(3)], ["a"] * 3)
        self.assertEqual(self.told(studio), told)
        self.assertEqual(told, ("ab", "b", "b", "ba", "a", 1))
        self.assertEqual(studio.hear("b"), "b")
        self.assertEqual(studio.shown_now, "bba")

    def test_empty_pieces_count(self):
        studio = Studio(oracle.ANY, 0)
        self.assertEqual([studio.hear(""), studio.hear("a"), studio.hear("")], ["", "a", ""])
        self.assertEqual(len(studio), 3)
        studio.undo()
        studio.undo()
        self.assertEqual((studio.spoken, len(studio)), ("", 1))

    def test_two_studios(self):
        one, other = Studio(oracle.NEXT, 1), Studio(oracle.NEXT, 1)
        one.hear("ab")
        self.assertEqual((one.spoken, other.spoken, len(other)), ("ab", "", 0))


class WrongTest(unittest.TestCase):
    def test_mute_ahead_of_no_lag(self):
        for rules in NOT_FULL:
            for lag in (0, 1, 5, None):
                with self.assertRaises(Mute) as caught:
                    Studio(rules, lag)
                self.assertEqual(caught.exception.speech, oracle.first_mute(rules))

    def test_no_lag(self):
        seen = 0
        for rules in samples(611, 30):
            for lag in range(4):
                if (0, "") in oracle.winning(rules, lag):
                    self.assertEqual(Studio(rules, lag).lag, lag)
                else:
                    seen += 1
                    with self.assertRaises(NoLag) as caught:
                        Studio(rules, lag)
                    self.assertEqual(caught.exception.lag, lag)
        self.assertTrue(seen > 30)

    def test_bad_pieces(self):
        studio = Studio(oracle.NEXT, 1)
        studio.hear("ab")
        told = StudioTest.told(self, studio)
        for thing in odd.VALUES + (("a", "b"), ["a"], b"ab", "abc", "cab", "abA", "ab\n", "b b", "aabbx", "-"):
            if type(thing) is str and set(thing) <= set("ab"):
                continue
            with self.assertRaises(BadPiece) as caught:
                studio.hear(thing)
            place = -1 if type(thing) is not str else [at for at, letter in enumerate(thing) if letter not in "ab"][0]
            self.assertTrue(odd.same_kind(caught.exception.place, place))
            self.assertEqual(StudioTest.told(self, studio), told)
        studio.undo()
        self.assertRaises(NothingToUndo, studio.undo)

    def test_by_name(self):
        told = str(oracle.NEXT)
        studio = Studio(lag=1, rules=oracle.NEXT)
        self.assertEqual(studio.hear(piece="abb"), "bb")
        self.assertEqual(str(oracle.NEXT), told)

    def test_returned_rules(self):
        rules = oracle.NEXT | oracle.FIRST
        studio = Studio(rules, 1)
        studio.hear("abba" * 15)
        self.assertTrue(rules.is_right(studio.spoken, studio.shown_now))


if __name__ == "__main__":
    unittest.main()
