"""Pieces: maps, costs and classes, joined in any order."""

import random
import unittest

from pacehouse.captioning import is_full
from pacehouse.classes import class_of
from pacehouse.errors import BadPair, OtherRules
from pacehouse.exchanges import need
from pacehouse.pieces import Piece, is_right_piece, need_of, piece_of
from pacehouse.recordings import Recording
from pacehouse.rules import Rules
from tests import odd, oracle, oracle_mending, oracle_pieces


def samples(seed, count):
    return oracle_pieces.samples(seed, count)


def short_pairs(rules, most):
    for speech in oracle.texts(rules.heard, most):
        for caption in oracle_mending.captions_of(rules.written[:2] + "q", len(speech)):
            yield speech, caption


class PieceTest(unittest.TestCase):
    def test_beside_all_captions(self):
        none = {"map": 0, "cost": 0, "need": 0}
        for rules in samples(501, 30):
            told = str(rules)
            for pair in short_pairs(rules, 3):
                piece = piece_of(rules, *pair)
                self.assertIsInstance(piece, Piece)
                self.assertTrue(odd.same_kind(oracle_pieces.told(piece), oracle_pieces.told_of(rules, *pair)))
                self.assertTrue(odd.same_kind((piece.speech_there, piece.caption_there), pair))
                self.assertEqual(piece.rules, rules)
                self.assertEqual(len(piece), len(pair[0]))
                self.assertTrue(odd.same_kind(need_of(piece), oracle_pieces.need(rules, *pair)))
                self.assertIs(is_right_piece(piece), rules.is_right(*pair))
                none["map"] += None in piece.leads_to
                none["cost"] += any(None in row for row in piece.costs)
                none["need"] += need_of(piece) is None
            self.assertEqual(str(rules), told)
        self.assertTrue(min(none.values()) > 100, none)

    def test_promise(self):
        """Costs are None just where the class has no state, and a state of the map has the cost 0."""
        for rules in samples(502, 30):
            for pair in short_pairs(rules, 3):
                piece = piece_of(rules, *pair)
                for state, row in enumerate(piece.costs):
                    self.assertEqual(piece.led_class[state], tuple(end for end, cost in enumerate(row) if cost is not None))
                    self.assertTrue(piece.leads_to[state] is None or row[piece.leads_to[state]] == 0)
                if is_full(rules):
                    self.assertEqual(piece.led_class, class_of(rules, pair[0]))
                    self.assertEqual(need_of(piece), need(rules, *pair))

    def test_without_letters(self):
        for rules in samples(503, 10):
            piece = piece_of(rules, "", "")
            states = range(len(rules))
            self.assertEqual(piece.leads_to, tuple(states))
            self.assertEqual(piece.costs, tuple(tuple(0 if s == t else None for t in states) for s in states))
            self.assertEqual(piece.led_class, tuple((s,) for s in states))
            self.assertTrue(odd.same_kind((len(piece), need_of(piece), is_right_piece(piece)), (0, 0, True)))
            other = piece_of(rules, rules.heard[0], "q")
            self.assertEqual(oracle_pieces.told(piece + other), oracle_pieces.told(other))
            self.assertEqual(oracle_pieces.told(other + piece), oracle_pieces.told(other))
            self.assertEqual((piece + piece).costs, piece.costs)

    def test_sixty_letters(self):
        for rules in samples(504, 10):
            for speech, caption in ((rules.heard[0] * 60, rules.written[0] * 60), ((rules.heard * 60)[:60], (rules.written * 60)[:60]),
                                    ((rules.heard * 60)[:60], "q" * 59 + rules.written[-1])):
                piece = piece_of(rules, speech, caption)
                self.assertEqual(len(piece), 60)
                self.assertEqual(need_of(piece), oracle_pieces.need(rules, speech, caption))
                self.assertIs(is_right_piece(piece), oracle.led(rules, 0, speech, caption) is not None)


class JoiningTest(unittest.TestCase):
    def check_joined(self, rules, joined, pair):
        whole = piece_of(rules, *pair)
        self.assertTrue(odd.same_kind(oracle_pieces.told(joined), oracle_pieces.told(whole)))
        self.assertEqual((joined.speech_there, joined.caption_there), pair)
        self.assertEqual((joined.rules, len(joined)), (rules, len(pair[0])))
        self.assertTrue(joined == whole and need_of(joined) == need_of(whole) and is_right_piece(joined) == is_right_piece(whole))

    def test_each_cut(self):
        for rules in samples(511, 20):
            for pair in list(short_pairs(rules, 3))[-30:]:
                for place in range(len(pair[0]) + 1):
                    one, other = [piece_of(rules, *(text[part] for text in pair)) for part in (slice(place), slice(place, None))]
                    told = oracle_pieces.told(one), oracle_pieces.told(other)
                    self.check_joined(rules, one + other, pair)
                    self.assertEqual((oracle_pieces.told(one), oracle_pieces.told(other)), told)

    def test_any_order_of_joining(self):
        rng = random.Random(512)
        for rules in samples(512, 20):
            for many in (7, 40, 200):
                speech = "".join(rng.choice(rules.heard) for _ in range(many))
                caption = "".join(rng.choice(rules.written + "q") if rng.random() < 0.4 else rules.written[0] for _ in range(many))
                cuts = sorted(rng.randint(0, many) for _ in range(6))
                pieces = [piece_of(rules, speech[start:end], caption[start:end]) for start, end in zip([0] + cuts, cuts + [many])]
                while len(pieces) > 1:
                    place = rng.randrange(len(pieces) - 1)
                    pieces[place:place + 2] = [pieces[place] + pieces[place + 1]]
                self.check_joined(rules, pieces[0], (speech, caption))

    def test_other_rules(self):
        for one, other in ((oracle.NEXT, oracle.ANY), (oracle.NEXT, oracle.FAR), (oracle.NEXT, oracle.NEXT.respelled("ba", "ab")),
                           (oracle.TURNS, oracle.TURNS | oracle.TURNS)):
            if one != other:
                with self.assertRaises(OtherRules):
                    piece_of(one, "a", "a") + piece_of(other, "a", "a")
        # Rules with the same right pairs are not equal for that: nothing leads to the second state.
        more = Rules("a", "x", ((("a", "x", 0),), ()))
        with self.assertRaises(OtherRules):
            piece_of(more, "a", "x") + piece_of(more.least(), "a", "x")
        again = Rules(oracle.NEXT.heard, oracle.NEXT.written, oracle.NEXT.rows)
        self.check_joined(oracle.NEXT, piece_of(oracle.NEXT, "a", "b") + piece_of(again, "ba", "aa"), ("aba", "baa"))


class EqualTest(unittest.TestCase):
    def test_other_pairs_with_the_same_map_costs_and_class(self):
        same = {True: 0, False: 0}
        for rules in samples(521, 15):
            pieces = [piece_of(rules, *pair) for pair in short_pairs(rules, 2)]
            for one in pieces:
                for other in pieces:
                    told = oracle_pieces.told(one) == oracle_pieces.told(other)
                    self.assertIs(one == other, told)
                    self.assertIs(one != other, not told)
                    same[told] += one.caption_there != other.caption_there
        self.assertTrue(min(same.values()) > 100, same)
        self.assertTrue(piece_of(oracle.ANY, "ab", "ab") == piece_of(oracle.ANY, "a", "a"))
        self.assertTrue(piece_of(oracle.ECHO, "a", "b") == piece_of(oracle.ECHO, "b", "z"))

    def test_same_costs_and_other_maps(self):
        """A state to which the signs lead has the cost 0, but what costs 0 is told by the map alone where there is none."""
        for rules in samples(522, 20):
            pieces = [piece_of(rules, *pair) for pair in short_pairs(rules, 2)]
            for one in pieces:
                for other in pieces:
                    self.assertIs(one == other, one.leads_to == other.leads_to and one.costs == other.costs)

    def test_other_rules_and_values_of_all_kinds(self):
        piece = piece_of(oracle.ECHO, "ab", "aa")
        other = Rules("ab", "abc", oracle.ECHO.rows)
        self.assertEqual(oracle_pieces.told(piece_of(other, "ab", "aa")), oracle_pieces.told(piece))
        self.assertFalse(piece == piece_of(other, "ab", "aa"))
        for thing in (*odd.VALUES, oracle.ECHO, Recording(oracle.ECHO, "ab", "aa"), "ab", ("ab", "aa"), oracle_pieces.told(piece)):
            self.assertIs(piece == thing, False)
            self.assertIs(thing == piece, False)
        self.assertIs(piece == piece_of(oracle.ECHO, "ab", "aa"), True)


class WrongTest(unittest.TestCase):
    def test_speech_ahead_of_caption(self):
        for rules in (oracle.NEXT, oracle.DEAD, oracle.SILENT):
            for speech in odd.VALUES + ("q", "A", "ab\n", "a b", "a-", ("a",), ["a"], "ac"):
                if type(speech) is str and set(speech) <= set(rules.heard):
                    continue
                for caption in ("", "a", None, 5, ("a",)):
                    with self.assertRaises(BadPair) as caught:
                        piece_of(rules, speech, caption)
                    self.assertEqual(caught.exception.part, "speech")

    def test_captions(self):
        for rules in (oracle.NEXT, oracle.DEAD, oracle.SILENT):
            speech = rules.heard[0] * 2
            for caption in odd.VALUES + ("q", "A", "a\n", "a ", "qqq", ("a", "a"), ["a", "a"], "aA", "1a", "", b"aa"):
                if type(caption) is str and len(caption) == 2 and set(caption) <= set(oracle_pieces.ALPHABET):
                    continue
                with self.assertRaises(BadPair) as caught:
                    piece_of(rules, speech, caption)
                self.assertEqual(caught.exception.part, "caption")
            self.assertEqual(len(piece_of(rules, speech, "qz")), 2)
            with self.assertRaises(BadPair) as caught:
                piece_of(rules, "", "a")
            self.assertEqual(caught.exception.part, "caption")

    def test_no_mute(self):
        piece = piece_of(oracle.LATE, "b", "a")
        self.assertEqual((piece.leads_to, piece.led_class), ((None, None, 2), ((), (), (2,))))
        self.assertEqual(piece.costs, ((None,) * 3, (None,) * 3, (None, None, 0)))
        self.assertTrue(need_of(piece) is None and is_right_piece(piece) is False)


class CallsTest(unittest.TestCase):
    def test_by_name(self):
        told = str(oracle.ECHO)
        for _ in range(2):
            piece = piece_of(caption="aa", speech="ab", rules=oracle.ECHO)
            self.assertEqual((need_of(piece=piece), is_right_piece(piece=piece)), (1, False))
        self.assertEqual(str(oracle.ECHO), told)

    def test_returned_rules(self):
        rules = oracle.NEXT | oracle.FIRST
        self.assertEqual(oracle_pieces.told(piece_of(rules, "aab", "bba")), oracle_pieces.told_of(rules, "aab", "bba"))


if __name__ == "__main__":
    unittest.main()
