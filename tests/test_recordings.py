"""Recordings: what they tell at each place, changes, and changes taken back."""

import random
import unittest

from pacehouse.errors import BadPair, BadPlace, NothingToUndo
from pacehouse.exchanges import need
from pacehouse.pieces import is_right_piece, need_of, piece_of
from pacehouse.recordings import Recording
from pacehouse.windows import stops_at
from tests import odd, oracle, oracle_pieces
from tests.test_pieces import short_pairs

NO_PLACES = tuple(value for value in odd.VALUES if type(value) is not int) + ("0", 0.0, (0,), [0])


def samples(seed, count):
    return oracle_pieces.samples(seed, count)


def any_pair(rng, rules, many):
    """A pair of so many signs, a good part of it right, by the rules, from where one is."""
    state, speech, caption = 0, "", ""
    for _ in range(many):
        moves = rules.rows[state] if state is not None else ()
        if moves and rng.random() < 0.95:
            h, c, state = rng.choice(moves)
        else:
            h, c, state = rng.choice(rules.heard), rng.choice(rules.written + "q"), rng.randrange(len(rules))
        speech, caption = speech + h, caption + c
    return speech, caption


class Looks(unittest.TestCase):
    def check(self, recording, rules, pair):
        """All that a recording tells, beside a slow look at its pair."""
        speech, caption = pair
        states = oracle_pieces.states_at(rules, *pair)
        self.assertTrue(odd.same_kind(recording.pair_now, pair))
        self.assertEqual(recording.rules, rules)
        self.assertEqual(len(recording), len(speech))
        self.assertTrue(odd.same_kind(recording.need_now, oracle_pieces.need(rules, *pair)))
        self.assertTrue(odd.same_kind(recording.right_until, max(at for at, state in enumerate(states) if state is not None)))
        self.assertTrue(odd.same_kind([recording.state_at(at) for at in range(len(states))], states))
        for k in range(1, 6):
            self.assertTrue(odd.same_kind(recording.stops(k), oracle_pieces.stops(rules, speech, caption, k)))

    def check_stretches(self, recording, rules, pair):
        for start in range(len(pair[0]) + 1):
            for end in range(start, len(pair[0]) + 1):
                piece = recording.stretch(start, end)
                whole = piece_of(rules, pair[0][start:end], pair[1][start:end])
                self.assertTrue(piece == whole and oracle_pieces.told(piece) == oracle_pieces.told(whole))
                self.assertEqual((piece.speech_there, piece.caption_there), (whole.speech_there, whole.caption_there))


class TellsTest(Looks):
    def test_short_pairs(self):
        faults = 0
        for rules in samples(531, 15):
            told = str(rules)
            for pair in short_pairs(rules, 3):
                recording = Recording(rules, *pair)
                self.check(recording, rules, pair)
                self.check_stretches(recording, rules, pair)
                faults += 0 < recording.right_until < len(recording)
            self.assertEqual(str(rules), told)
        self.assertTrue(faults > 50)

    def test_two_hundred_letters(self):
        rng = random.Random(532)
        right = wrong = 0
        for rules in samples(532, 12):
            for pair in (any_pair(rng, rules, 200), (rules.heard[0] * 200, rules.written[0] * 200),
                         ((rules.heard * 200)[:200], (rules.written * 200)[:200])):
                recording = Recording(rules, *pair)
                self.check(recording, rules, pair)
                right += recording.right_until == 200
                wrong += recording.right_until < 200
                for start, end in ((0, 200), (13, 150), (0, 0), (200, 200), (199, 200), (77, 77)):
                    self.assertTrue(recording.stretch(start, end) == piece_of(rules, pair[0][start:end], pair[1][start:end]))
        self.assertTrue(right > 3 and wrong > 3)

    def test_empty_pair(self):
        for rules in samples(533, 6):
            recording = Recording(rules, "", "")
            self.check(recording, rules, ("", ""))
            self.assertTrue(odd.same_kind((recording.state_at(0), recording.right_until, recording.need_now, len(recording)), (0, 0, 0, 0)))
            self.assertEqual([recording.stops(k) for k in range(1, 6)], [()] * 5)
            self.assertEqual(len(recording.stretch(0, 0)), 0)

    def test_windows(self):
        """The window at place 0 is looked at from state 0 alone, those behind it from inner states."""
        recording = Recording(oracle.NEXT, "ab", "aa")
        self.assertEqual([recording.stops(k) for k in range(1, 6)], [(), (0,), (), (), ()])
        rules = oracle_pieces.Rules("a", "xy", ((("a", "x", 1),), (("a", "y", 1),)))
        self.assertEqual(Recording(rules, "aaa", "xxy").stops(1), (1,))
        self.assertEqual(Recording(rules, "aaa", "yyy").stops(1), (0,))
        self.assertEqual(Recording(rules, "aaa", "yyy").stops(2), (0,))
        self.assertEqual(Recording(rules, "aaaa", "xyxy").stops(2), (1, 2))
        self.assertEqual(Recording(rules, "aaa", "xyy").stops(3), ())
        self.assertEqual(Recording(rules, "aaa", "qqq").stops(1), (0, 1, 2))

    def test_windows_beside_is_let_by(self):
        """A pair is let by if none of its windows stops it; a shorter one if it is right."""
        for rules in samples(534, 12):
            for pair in short_pairs(rules, 3):
                for k in range(1, 4):
                    stop = stops_at(rules, k, *pair)
                    if len(pair[0]) >= k:
                        stops = Recording(rules, *pair).stops(k)
                        self.assertEqual(stop is None, stops == ())
                        self.assertTrue(stop is None or stops[0] == 0 or stop == stops[0] + k)
                    else:
                        self.assertEqual(stop is None, rules.is_right(*pair))

    def test_stretches_stay_as_they_are(self):
        recording = Recording(oracle.NEXT, "aabba", "abbaa")
        stretch = recording.stretch(1, 4)
        told = oracle_pieces.told(stretch), stretch.speech_there, stretch.caption_there
        recording.change(0, 5, "bb", "zz")
        recording.change(1, 1, "aaa", "aaa")
        recording.undo()
        self.assertEqual((oracle_pieces.told(stretch), stretch.speech_there, stretch.caption_there), told)
        self.assertEqual(told[1:], ("abb", "bba"))


class ChangesTest(Looks):
    def random_change(self, rng, rules, pair):
        many = len(pair[0])
        start = rng.choice((0, many, rng.randint(0, many)))
        end = rng.choice((start, many, rng.randint(start, many), min(many, start + 2)))
        piece = any_pair(rng, rules, rng.choice((0, 0, 1, 2, 3, end - start, min(9, 200 - many))))
        if rng.random() < 0.2:
            piece = pair[0][start:end], pair[1][start:end]
        if rng.random() < 0.4:
            piece = piece[0], pair[1][start:start + len(piece[0])].ljust(len(piece[0]), rules.written[0])
        return start, end, piece

    def test_rows_of_changes_and_of_changes_taken_back(self):
        rng = random.Random(541)
        numbers = {}
        for rules in samples(541, 20):
            pair = any_pair(rng, rules, rng.choice((0, 3, 12, 20)))
            recording = Recording(rules, *pair)
            past = []
            for _ in range(20):
                if past and rng.random() < 0.3:
                    self.assertIsNone(recording.undo())
                    pair = past.pop()
                else:
                    start, end, piece = self.random_change(rng, rules, pair)
                    after = pair[0][:start] + piece[0] + pair[0][end:], pair[1][:start] + piece[1] + pair[1][end:]
                    number = recording.change(start, end, *piece)
                    told = oracle_pieces.alike_behind(rules, pair, after, len(pair[0]) - end)
                    self.assertTrue(odd.same_kind(number, told), (str(rules), pair, after))
                    kind = "none" if number == 0 else "all" if number == len(pair[0]) - end else "some"
                    numbers[kind] = numbers.get(kind, 0) + 1
                    past.append(pair)
                    pair = after
                self.check(recording, rules, pair)
                again = Recording(rules, *pair)
                self.assertEqual([recording.stretch(0, place) for place in range(len(again) + 1)],
                                 [again.stretch(0, place) for place in range(len(again) + 1)])
            while past:
                recording.undo()
                pair = past.pop()
                self.assertTrue(odd.same_kind(recording.pair_now, pair))
            with self.assertRaises(NothingToUndo):
                recording.undo()
            self.check(recording, rules, pair)
        self.assertTrue(set(numbers) == {"none", "all", "some"} and min(numbers.values()) > 15, numbers)

    def test_sixty_changes_of_two_hundred_letters(self):
        rng = random.Random(542)
        for rules in samples(542, 2)[:8]:
            pair = any_pair(rng, rules, 190)
            recording = Recording(rules, *pair)
            for _ in range(60):
                start, end, piece = self.random_change(rng, rules, pair)
                after = pair[0][:start] + piece[0] + pair[0][end:], pair[1][:start] + piece[1] + pair[1][end:]
                self.assertEqual(recording.change(start, end, *piece), oracle_pieces.alike_behind(rules, pair, after, len(pair[0]) - end))
                pair = after
            self.check(recording, rules, pair)
            for _ in range(60):
                recording.undo()
            self.assertRaises(NothingToUndo, recording.undo)

    def test_longer_shorter_empty_and_equal_pieces_at_both_ends(self):
        for (start, end, speech, caption), after, number in (
                ((0, 0, "", ""), ("aabb", "abbb"), 4), ((4, 4, "", ""), ("aabb", "abbb"), 0), ((1, 3, "ab", "bb"), ("aabb", "abbb"), 1),
                ((0, 4, "aabb", "abbb"), ("aabb", "abbb"), 0), ((0, 4, "", ""), ("", ""), 0), ((0, 1, "", ""), ("abb", "bbb"), 3),
                ((0, 0, "b", "a"), ("baabb", "aabbb"), 3), ((0, 0, "b", "b"), ("baabb", "babbb"), 0), ((4, 4, "aa", "aa"), ("aabbaa", "abbbaa"), 0),
                ((2, 2, "a", "b"), ("aaabb", "abbbb"), 0), ((3, 4, "", ""), ("aab", "abb"), 0), ((1, 2, "aba", "aba"), ("aababb", "aababb"), 2)):
            recording = Recording(oracle.NEXT, "aabb", "abbb")
            told = recording.change(start, end, speech, caption)
            self.assertEqual(recording.pair_now, after)
            self.assertEqual(told, oracle_pieces.alike_behind(oracle.NEXT, ("aabb", "abbb"), after, 4 - end))
            recording.undo()
            self.assertEqual(recording.pair_now, ("aabb", "abbb"))
        recording = Recording(oracle.NEXT, "aabb", "abbb")
        self.assertEqual(recording.change(0, 0, "", ""), 4)
        self.assertEqual(recording.change(1, 2, "a", "b"), 2)

    def test_none_before_and_behind_is_as_it_was(self):
        recording = Recording(oracle.ECHO, "abab", "bbbb")
        self.assertEqual([recording.state_at(at) for at in range(5)], [0, None, None, None, None])
        self.assertEqual(recording.change(1, 2, "a", "a"), 2)
        self.assertEqual(recording.change(0, 1, "a", "a"), 1)
        self.assertEqual([recording.state_at(at) for at in range(5)], [0, 0, 0, None, None])
        self.assertEqual(recording.change(0, 1, "b", "b"), 3)
        self.assertEqual(recording.change(3, 3, "aaa", "aaa"), 1)

    def test_undo_step_by_step(self):
        recording = Recording(oracle.ECHO, "ab", "ab")
        self.assertRaises(NothingToUndo, recording.undo)
        for many in range(3):
            recording.change(0, 0, "a", "b")
        for many in (2, 1, 0):
            recording.undo()
            self.assertEqual(recording.pair_now, ("a" * many + "ab", "b" * many + "ab"))
        self.assertRaises(NothingToUndo, recording.undo)
        recording.change(0, 0, "", "")
        recording.undo()
        self.assertRaises(NothingToUndo, recording.undo)
        self.assertEqual(recording.pair_now, ("ab", "ab"))


class WrongTest(unittest.TestCase):
    def test_pairs(self):
        for speech, caption, part in (("c", "a", "speech"), (None, None, "speech"), (["a"], "a", "speech"), ("a", "ab", "caption"),
                                      ("a", "A", "caption"), ("a", None, "caption"), ("", "a", "caption"), (("a",), ("a",), "speech"),
                                      (True, "", "speech"), ("ab\n", "abb", "speech"), ("ab", "a ", "caption")):
            with self.assertRaises(BadPair) as caught:
                Recording(oracle.NEXT, speech, caption)
            self.assertEqual(caught.exception.part, part)
            recording = Recording(oracle.NEXT, "aab", "abb")
            with self.assertRaises(BadPair) as caught:
                recording.change(0, 1, speech, caption)
            self.assertEqual(caught.exception.part, part)
            self.assertEqual(recording.pair_now, ("aab", "abb"))
            self.assertRaises(NothingToUndo, recording.undo)

    def test_places(self):
        recording = Recording(oracle.NEXT, "aab", "abb")
        for place in NO_PLACES + (-1, 4, 10 ** 39, -10 ** 39):
            for call, told in ((recording.state_at, (place,)), (recording.stretch, (place, 3)), (recording.stretch, (0, place)),
                               (recording.stretch, (place, None)), (recording.change, (place, 3, "a", "a")),
                               (recording.change, (0, place, "a", "a")), (recording.change, (place, {}, None, None)),
                               (recording.change, (3, place, None, "a"))):
                with self.assertRaises(BadPlace) as caught:
                    call(*told)
                self.assertIs(caught.exception.place, place)
                self.assertEqual(recording.pair_now, ("aab", "abb"))
        for start in range(4):
            for end in range(4):
                if end < start:
                    for call, told in ((recording.stretch, (start, end)), (recording.change, (start, end, "a", "a")),
                                       (recording.change, (start, end, None, None))):
                        with self.assertRaises(BadPlace) as caught:
                            call(*told)
                        self.assertEqual(caught.exception.place, end)
        self.assertRaises(NothingToUndo, recording.undo)

    def test_start_ahead_of_end(self):
        recording = Recording(oracle.NEXT, "aab", "abb")
        for start, end, wrong in ((9, 8, 9), (9, 1, 9), (True, False, True), (1, True, True), (2, 1, 1), (-1, -2, -1), (3, 4, 4)):
            for call, told in ((recording.stretch, (start, end)), (recording.change, (start, end, "q", "q"))):
                with self.assertRaises(BadPlace) as caught:
                    call(*told)
                self.assertIs(caught.exception.place, wrong)


class CallsTest(unittest.TestCase):
    def test_by_name(self):
        recording = Recording(caption="abaa", speech="abba", rules=oracle.ECHO)
        self.assertEqual(recording.state_at(place=2), 0)
        self.assertEqual(recording.stretch(end=3, start=1).speech_there, "bb")
        self.assertEqual(recording.stops(k=1), (2,))
        self.assertEqual(recording.change(caption="a", speech="a", end=3, start=2), 0)
        self.assertEqual(recording.right_until, 4)

    def test_beside_pieces_and_needs(self):
        """Joined stretches tell what the recording tells, and need, part 5, if the rules are full."""
        for rules in samples(551, 10):
            for pair in list(short_pairs(rules, 3))[-10:]:
                recording = Recording(rules, *pair)
                many = len(recording)
                joined = recording.stretch(0, many // 2) + recording.stretch(many // 2, many)
                self.assertTrue(joined == recording.stretch(0, many))
                self.assertEqual((need_of(joined), is_right_piece(joined)), (recording.need_now, recording.right_until == many))
                if oracle.first_mute(rules) is None:
                    self.assertEqual(need(rules, *pair), recording.need_now)

    def test_two_recordings_of_one_pair(self):
        one, other = Recording(oracle.ECHO, "ab", "ab"), Recording(oracle.ECHO, "ab", "ab")
        one.change(0, 1, "b", "a")
        self.assertEqual((one.pair_now, other.pair_now), (("bb", "ab"), ("ab", "ab")))
        self.assertRaises(NothingToUndo, other.undo)


if __name__ == "__main__":
    unittest.main()
