"""Rules: what makes them, their equality, their texts, where captions lead."""

import copy
import random
import unittest

from pacehouse.errors import BadRules, BadText
from pacehouse.rules import Rules
from tests import odd, oracle

ROW = (("a", "x", 1), ("a", "y", 0), ("b", "x", 1))
GOOD = ("ab", "xy", (ROW, ()))


def fault_of(heard, written, rows):
    """The part with which rules of any values are refused, or None; by the document's words."""
    for part, letters in (("heard", heard), ("written", written)):
        if type(letters) is not str or letters == "" or not set(letters) <= set("abcdefghijklmnopqrstuvwxyz"):
            return part
        if list(letters) != sorted(set(letters)):
            return part
    if type(rows) is not tuple or len(rows) < 1 or len(rows) > 999:
        return "rows"
    for state, row in enumerate(rows):
        if not row_holds(row, heard, written, len(rows)):
            return state
    return None


def row_holds(row, heard, written, many):
    if type(row) is not tuple:
        return False
    for move in row:
        if type(move) is not tuple or len(move) != 3 or type(move[2]) is not int or not 0 <= move[2] < many:
            return False
        if type(move[0]) is not str or type(move[1]) is not str:
            return False
        if move[0] not in list(heard) or move[1] not in list(written):
            return False
    return list(row) == sorted(row) and len({move[:2] for move in row}) == len(row)


class MakingTest(unittest.TestCase):
    def check(self, part, heard, written, rows):
        self.assertEqual(fault_of(heard, written, rows), part)
        if part is None:
            rules = Rules(heard, written, rows)
            self.assertTrue(odd.same_kind((rules.heard, rules.written, rules.rows), (heard, written, rows)))
            return
        with self.assertRaises(BadRules) as caught:
            Rules(heard, written, rows)
        self.assertTrue(odd.same_kind(caught.exception.part, part))

    def test_letters(self):
        for letters in odd.VALUES + ("", "ba", "aa", "aba", "A", "a b", "a1", "\u00e9", ["a"], ("a", "b"), b"a", "ab "):
            if fault_of(letters, "xy", GOOD[2]) == "heard":
                self.check("heard", letters, "xy", GOOD[2])
                self.check("heard", letters, letters, None)
                self.check("written", "ab", letters, GOOD[2])
                self.check("written", "ab", letters, None)
        self.check(None, "a", "abcdefghijklmnopqrstuvwxyz", ((),))
        self.check(None, "ab", "ab", ((("a", "a", 0),),))

    def test_rows(self):
        for rows in (None, [], (), [ROW, ()], "ab", {0: ROW}, 1, ((),) * 1000, [()]):
            self.check("rows", "ab", "xy", rows)
        self.check(None, "ab", "xy", ((),) * 999)

    def test_first_state_whose_row_is_none(self):
        for row in (None, [], list(ROW), "", 1, {}, (None,), ((),), (("a", "x"),), (("a", "x", 0, 0),),
                    (["a", "x", 0],), (("a", "x", True),), (("a", "x", False),), (("a", "x", 2),), (("a", "x", -1),),
                    (("a", "x", "0"),), (("c", "x", 0),), (("a", "a", 0),), (("", "x", 0),), (("ab", "x", 0),),
                    (("a", "xy", 0),), (("a", None, 0),), ((("a",), "x", 0),), (("a", "x", 0), ("a", "x", 0)),
                    (("a", "x", 0), ("a", "x", 1)), (("a", "y", 0), ("a", "x", 0)), (("b", "x", 0), ("a", "x", 0)),
                    (("a", "x", 0), None), (("a", "x", 10 ** 39),), (("a", "x", Rules(*GOOD)),)):
            self.check(0, "ab", "xy", (row, None))
            self.check(1, "ab", "xy", (ROW, row, row) if row != (("a", "x", 2),) else (ROW, row))

    def test_order_of_faults(self):
        self.check("heard", "", "", None)
        self.check("written", "a", "", None)
        self.check("rows", "a", "x", [])

    def test_any_values(self):
        for rules in (oracle.NEXT, oracle.FAR, oracle.DEAD):
            for parts in odd.variants((rules.heard, rules.written, rules.rows), 5, 2500):
                if type(parts) is tuple and len(parts) == 3:
                    self.check(fault_of(*parts), *parts)

    def test_by_name(self):
        self.assertEqual(Rules(rows=GOOD[2], heard="ab", written="xy"), Rules(*GOOD))

    def test_passed_values_stay(self):
        rows = (ROW, [("a", "x", 0)])
        kept = copy.deepcopy(rows)
        self.assertRaises(BadRules, Rules, "ab", "xy", rows)
        self.assertTrue(odd.same_kind(rows, kept))


class EqualityTest(unittest.TestCase):
    def test_equal(self):
        self.assertTrue(Rules(*GOOD) == Rules(*copy.deepcopy(GOOD)))
        self.assertFalse(Rules(*GOOD) != Rules(*GOOD))
        self.assertIs(Rules(*GOOD) == Rules(*GOOD), True)

    def test_unequal(self):
        rules = Rules("a", "x", ((("a", "x", 0),),))
        for other in (Rules("ab", "x", rules.rows), Rules("a", "xy", rules.rows), Rules("a", "x", ((),)),
                      Rules("a", "x", rules.rows + ((),)), str(rules), rules.rows, ("a", "x", rules.rows)) + odd.VALUES[:-3]:
            self.assertIs(rules == other, False)
            self.assertIs(other == rules, False)
            self.assertTrue(rules != other)

    def test_len(self):
        for many in (1, 2, 999):
            self.assertEqual(len(Rules("a", "x", ((),) * many)), many)


class TextTest(unittest.TestCase):
    def test_there_and_back(self):
        for rules in oracle.NAMED + tuple(oracle.many_rules(1, 60)):
            lines = [f"rules {rules.heard} {rules.written} {len(rules.rows)}"]
            lines += [f"move {state} {h} {c} {after}" for state, row in enumerate(rules.rows) for h, c, after in row]
            self.assertEqual(str(rules), "\n".join(lines))
            self.assertEqual(Rules.read(str(rules)), rules)
            self.assertTrue(odd.same_kind(Rules.read(str(rules)).rows, rules.rows))

    def test_largest(self):
        rng = random.Random(2)
        letters = "abcdefghijklmnopqrstuvwxyz"
        rows = tuple(tuple((h, c, rng.randrange(999)) for h in letters for c in "pqz") for _ in range(999))
        rules = Rules(letters, letters, rows)
        self.assertEqual(Rules.read(str(rules)), rules)
        self.assertEqual(len(str(rules).split("\n")), 1 + 999 * 26 * 3)

    def check(self, line, text):
        with self.assertRaises(BadText) as caught:
            Rules.read(text)
        self.assertTrue(odd.same_kind(caught.exception.line, line), (line, caught.exception.line, text))

    def test_no_strings(self):
        for thing in (None, 1, True, [], (), b"rules a x 1", ["rules a x 1"], ("rules a x 1",), {}, Rules(*GOOD)):
            self.check(-1, thing)

    def test_first_line(self):
        for line in ("", "rules", "rules a x", "rules a x 1 ", " rules a x 1", "rules  a x 1", "rules a x 1 1", "rule a x 1",
                     "Rules a x 1", "rules a x 0", "rules a x 1000", "rules a x 01", "rules a x +1", "rules a x -1",
                     "rules a x 1_0", "rules a x one", "rules a x 1.0", "rules a x \u0661", "rules a x \u00b2", "rules ba x 1",
                     "rules aa x 1", "rules a xx 1", "rules A x 1", "rules a yx 1", "rules a1 x 1", "rules  x 1",
                     "rules a  1", "rules a\tx 1", "rules a x 1\r", "move 0 a x 0", "rules a x " + "9" * 1900,
                     "rules a x " + "1" * 5000):
            self.check(0, line)
            self.check(0, line + "\nmove 0 a x 0")
            self.check(1, "rules b x 1\n" + line)

    def test_numbers_of_states(self):
        self.assertEqual(Rules.read("rules a x 999"), Rules("a", "x", ((),) * 999))
        self.assertEqual(Rules.read("rules a x 1"), Rules("a", "x", ((),)))

    def test_move_lines(self):
        head = "rules ab xy 2\nmove 0 a y 1\n"
        self.assertEqual(Rules.read(head + "move 1 b x 0").rows, ((("a", "y", 1),), (("b", "x", 0),)))
        for line in ("", "move 1 b x", "move 1 b x 0 ", " move 1 b x 0", "move  1 b x 0", "Move 1 b x 0", "move 2 b x 0",
                     "move 1 b x 2", "move 1 c x 0", "move 1 b a 0", "move 1 ab x 0", "move 1 b xy 0", "move 1  x 0",
                     "move 01 b x 0", "move 1 b x 00", "move -1 b x 0", "move 1 b x -0", "move 1 b x 0 0", "rules ab xy 2",
                     "move 1 b x 0\r", "move 0 a y 1", "move 0 a y 0", "move 0 a x 1", "move 1 b x " + "0" * 1900):
            self.check(2, head + line)
            self.check(2, head + line + "\nmove 1 b x 0")
        self.check(3, head + "move 1 b x 0\nmove 0 b x 0")
        self.check(3, head + "move 1 b x 0\nmove 1 a x 0")
        self.check(3, head + "move 1 b x 0\n")
        self.check(1, "rules a x 1\n")
        self.check(1, "rules a x 1\n\nmove 0 a x 0")

    def test_changed_texts(self):
        rng = random.Random(4)
        for rules in (oracle.NEXT, oracle.DEAD, oracle.FAR) * 200:
            text = str(rules)
            at = rng.randrange(len(text))
            other = text[:at] + rng.choice(("", "\n", " ", "0", "9", "a", "b", "~")) + text[at + rng.randrange(2):]
            try:
                read = Rules.read(other)
            except BadText as error:
                # What stands ahead of the line is as told: it is read by itself.
                self.assertTrue(0 <= error.line < len(other.split("\n")))
                if error.line > 0:
                    Rules.read("\n".join(other.split("\n")[:error.line]))
                self.check(error.line, "\n".join(other.split("\n")[:error.line + 1]))
            else:
                self.assertEqual(str(read), other)

    def test_by_name(self):
        self.assertEqual(Rules.read(text="rules a x 1"), Rules("a", "x", ((),)))


class LedTest(unittest.TestCase):
    def test_beside_all_captions(self):
        for rules in oracle.NAMED + tuple(oracle.many_rules(3, 25)):
            right = oracle.right_pairs(rules, 3)
            for speech, caption in oracle.pairs(rules.heard, rules.written, 3 if len(rules.heard + rules.written) < 5 else 2):
                self.assertIs(rules.is_right(speech, caption), (speech, caption) in right)
                for state in range(len(rules.rows)):
                    self.assertTrue(odd.same_kind(
                        rules.led(state, speech, caption), oracle.led(rules, state, speech, caption)))

    def test_empty(self):
        for rules in oracle.NAMED:
            self.assertIs(rules.is_right("", ""), True)
            for state in range(len(rules.rows)):
                self.assertEqual(rules.led(state, "", ""), state)

    def test_other_lengths_and_letters(self):
        for speech, caption in (("a", ""), ("", "a"), ("a", "aa"), ("aa", "a"), ("c", "a"), ("a", "c"), ("A", "a"),
                                ("a ", "aa"), ("a\n", "aa")):
            self.assertIsNone(oracle.ANY.led(0, speech, caption))
            self.assertIs(oracle.ANY.is_right(speech, caption), False)

    def test_long(self):
        speech = "ab" * 30
        self.assertEqual(oracle.NEXT.led(0, speech, speech[1:] + "b"), 2)
        self.assertIsNone(oracle.NEXT.led(0, speech, "b" * 60))
        self.assertIs(oracle.NEXT.is_right(speech, speech[1:] + "a"), True)
        self.assertIs(oracle.NEXT.is_right(speech, speech), False)

    def test_is_right_of_any_values(self):
        for one in odd.VALUES + ("ab", "x" * 2000):
            for two in odd.VALUES + ("ba", "x" * 2000):
                right = isinstance(one, str) and isinstance(two, str) and oracle.led(oracle.NEXT, 0, one[:9], two[:9])
                right = right is not None and right is not False and len(one) == len(two) < 9
                self.assertIs(oracle.NEXT.is_right(one, two), right)

    def test_by_name(self):
        self.assertEqual(oracle.NEXT.led(caption="b", speech="a", state=0), 2)
        self.assertIs(oracle.NEXT.is_right(caption="b", speech="a"), True)


if __name__ == "__main__":
    unittest.main()
