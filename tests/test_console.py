"""The console: each command with its answers and errors."""

import random
import unittest

from pacehouse.console import Console
from pacehouse.errors import (
    BadName, BadPiece, Broken, InvalidCommand, Mute, NoLag, NoName, NothingToRedo, NothingToUndo, OtherLetters)
from pacehouse.house import House
from pacehouse.lateplans import least_lag
from tests import odd, oracle, oracle_house


def text(rules):
    return str(rules).replace("\n", ";")


NEXT, ANY, LATE, ECHO, LATER, FAR = (
    text(rules) for rules in (oracle.NEXT, oracle.ANY, oracle.LATE, oracle.ECHO, oracle.LATER, oracle.FAR))
NO_COMMANDS = odd.VALUES + (
    "", " ", "names ", " names", "names x", "Names", "names\n", "\nnames", "name", "undo a", "redo a", "undo  ", "drop", "drop ", "drop  next",
    "drop next ", " drop next", "drop Next", "drop next2", "drop ninthword", "drop next next", "drop -", "least", "least next 1", "least ninthword",
    "lag next", "lag next 6", "lag next -1", "lag next 00", "lag next 10", "lag next a", "lag next 1 ", "lag  next 1", "lag next  1", "lag 1 next",
    "lag next -", "lag next 1 1", "plain next 6", "plain next", "plain next x", "window next 0", "window next 7", "window next", "window next 01",
    "window next 1 1", "mends next 1 1", "cast next", "cast next ", "cast next A", "cast next a1", "cast next a b", "cast next --", "cast next a-",
    "cast ninthword ab", "cast - ab", "right next ab", "right next ab ", "right next ab ab ab", "right next A a", "right next a ?", "right next  ab",
    "found", "found next", "found next ", "found next rules", "found next " + NEXT + ";", "found next " + NEXT + " ", "found next  " + NEXT,
    "found ninthword " + NEXT, "found - " + NEXT, "found Next " + NEXT, "found next;" + NEXT, "found next " + str(oracle.NEXT), "found " + NEXT,
    "found next " + NEXT.replace("rules", "rule"), "found next " + NEXT.replace(" 3;", " 2;"), "found next " + NEXT.replace(";", "; "),
    "found next rules ba ab 1", "found next rules ab ab 0", "found next rules ab ab 1000", "found next -", "found next " + NEXT.replace(";", ";;"),
    "bring next", "bring next " + NEXT + "\n", "bring ninthword " + NEXT, "bring next rules a a", "bring next " + NEXT.upper(),
    "tried next", "editions next", "log", "stands 0", "studio next 1", "help", "found next " + "rules a a 1;" * 2)


def told_word(word):
    return word if word else "-"


class Looks(unittest.TestCase):
    def check_raises(self, error, told, console, command):
        with self.assertRaises(error) as caught:
            console.run(command)
        self.assertIs(type(caught.exception), error)
        for name, value in told.items():
            self.assertEqual(getattr(caught.exception, name), value)

    def told(self, console):
        """All that a console tells of its names."""
        names = console.run("names")
        told = [names]
        for name in [] if names == "-" else names.split(" "):
            told.append(console.run(f"least {name}"))
            told += [console.run(f"right {name} {speech} {caption}") for speech in ("ab", "aab", "abb") for caption in ("aa", "ab", "bab", "aab", "bba")]
        return told


class CommandsTest(Looks):
    def test_found_and_names(self):
        console = Console()
        self.assertEqual(console.run("names"), "-")
        self.assertEqual(console.run("found next " + NEXT), "ok")
        self.assertEqual(console.run("found next " + ANY), "no")
        self.assertEqual(console.run("found late " + LATE), "no")
        self.assertEqual(console.run("found abcdefgh " + ANY), "ok")
        self.assertEqual(console.run("found z rules a x 1;move 0 a x 0"), "ok")
        self.assertEqual(console.run("found silent rules a x 1"), "no")
        self.assertEqual(console.run("names"), "abcdefgh next z")
        self.assertEqual(console.run("least next"), "1")

    def test_bring(self):
        console = Console()
        console.run("found next " + NEXT)
        for told, answer in ((LATE, "no"), (FAR, "no"), (text(oracle.NEXT.respelled("ab", "xy")), "no"), (NEXT, "ok"), (LATER, "ok"), (NEXT, "ok")):
            self.assertEqual(console.run("bring next " + told), answer)
        self.assertEqual(console.run("lag next 1"), "ok")
        self.assertEqual([console.run("bring next " + told) for told in (LATER, ANY, LATER, LATE)], ["no", "ok", "no", "no"])
        self.assertEqual(console.run("least next"), "0")

    def test_promises(self):
        console = Console()
        console.run("found next " + NEXT)
        self.assertEqual([console.run(f"lag next {number}") for number in range(6)], ["no"] + ["ok"] * 5)
        self.assertEqual([console.run(f"plain next {number}") for number in range(6)], ["no"] + ["ok"] * 5)
        self.assertEqual([console.run(f"window next {number}") for number in range(1, 7)], ["no"] + ["ok"] * 5)
        console.run("found far " + FAR)
        self.assertEqual([console.run(f"lag far {number}") for number in range(6)], ["no"] * 6)

    def test_promises_bind_later_editions(self):
        for command, good, bad in (("lag name 1", NEXT, LATER), ("plain name 1", NEXT, LATER), ("window name 2", NEXT, text(oracle.FIRST))):
            console = Console()
            console.run("found name " + NEXT)
            self.assertEqual(console.run("bring name " + bad), "ok")
            console.run("undo")
            self.assertEqual([console.run(line) for line in (command, "bring name " + good, "bring name " + bad)], ["ok", "ok", "no"])

    def test_least_and_cast(self):
        console = Console()
        for name, rules in (("next", NEXT), ("any", ANY), ("far", FAR), ("later", LATER)):
            console.run(f"found {name} {rules}")
        self.assertEqual([console.run(f"least {name}") for name in ("next", "any", "far", "later")], ["1", "0", "!", "2"])
        self.assertEqual(console.run("cast next abba"), "bbaa")
        self.assertEqual([console.run(f"cast {name} -") for name in ("next", "any", "later")], ["-", "-", "-"])
        self.assertEqual([console.run(f"cast far {word}") for word in ("-", "ab", "x")], ["!", "!", "!"])

    def test_right(self):
        console = Console()
        console.run("found next " + NEXT)
        for speech, caption, answer in (("aab", "abb", "yes"), ("aab", "aab", "no"), ("-", "-", "yes"), ("a", "-", "no"), ("-", "a", "no"),
                                        ("q", "q", "no"), ("aab", "xyz", "no"), ("aa", "a", "no")):
            self.assertEqual(console.run(f"right next {speech} {caption}"), answer)
        console.run("bring next " + ECHO)
        self.assertEqual([console.run("right next aab abb"), console.run("right next aab aab")], ["no", "yes"])

    def test_drop_undo_redo(self):
        console = Console()
        console.run("found a " + ANY)
        console.run("found b " + NEXT)
        self.assertEqual([console.run(line) for line in ("drop a", "names", "undo", "names", "redo", "names", "undo", "undo", "names")],
                         ["ok", "b", "ok", "a b", "ok", "b", "ok", "ok", "a"])
        self.assertEqual([console.run(line) for line in ("redo", "names", "undo", "undo", "names")], ["ok", "a b", "ok", "ok", "-"])
        self.check_raises(NothingToUndo, {}, console, "undo")
        self.assertEqual([console.run(line) for line in ("redo", "redo", "redo")], ["ok"] * 3)
        self.check_raises(NothingToRedo, {}, console, "redo")
        self.assertEqual(console.run("names"), "b")

    def test_no_and_errors_change_nothing(self):
        console = Console()
        console.run("found next " + NEXT)
        console.run("found any " + ANY)
        console.run("drop any")
        console.run("undo")
        told = self.told(console)
        for command in ("found next " + ANY, "found late " + LATE, "bring next " + LATE, "bring next " + FAR, "lag next 0", "plain next 0",
                        "window next 1"):
            self.assertEqual(console.run(command), "no")
            self.assertEqual(self.told(console), told)
        for command in NO_COMMANDS + ("drop gone", "cast next abq"):
            with self.assertRaises((InvalidCommand, NoName, BadPiece)):
                console.run(command)
        self.assertEqual(self.told(console), told)
        # Nothing of this was a change: what was taken back can still be made again.
        self.assertEqual([console.run("redo"), console.run("names")], ["ok", "next"])


class WrongTest(Looks):
    def test_values_that_have_not_the_form_of_a_command(self):
        for lines in ((), ("found next " + NEXT,), ("found next " + NEXT, "found a " + FAR)):
            console = Console()
            for line in lines:
                console.run(line)
            for command in NO_COMMANDS:
                self.check_raises(InvalidCommand, {}, console, command)

    def test_no_name_behind_the_form(self):
        console = Console()
        console.run("found next " + NEXT)
        for command in ("bring gone " + NEXT, "bring gone " + LATE, "bring gone " + FAR, "lag gone 1", "plain gone 1", "window gone 1", "least gone",
                        "cast gone ab", "cast gone qq", "cast gone -", "right gone ab ab", "right gone q q", "drop gone"):
            self.check_raises(NoName, {"name": "gone"}, console, command)
        for command in ("bring gone x", "lag gone 6", "window gone 0", "cast gone Q", "right gone a", "drop gone gone"):
            self.check_raises(InvalidCommand, {}, console, command)

    def test_bad_pieces(self):
        console = Console()
        console.run("found next " + NEXT)
        console.run("found far " + FAR)
        for command, place in (("cast next q", 0), ("cast next abq", 2), ("cast next aabbx", 4), ("cast far abxq", 3), ("cast far qx", 0)):
            self.check_raises(BadPiece, {"place": place}, console, command)
        self.assertEqual(console.run("cast far abx"), "!")


class HouseTest(Looks):
    def test_answers_beside_a_house_that_is_changed_likewise(self):
        rng = random.Random(651)
        seen = {}
        for _ in range(25):
            console, house = Console(), House()
            for _ in range(40):
                command, action = self.any_command(rng, house)
                try:
                    answer = action()
                except (BadName, Mute, OtherLetters, Broken):
                    answer = "no"
                except NoLag:
                    answer = "!"
                except (NoName, NothingToUndo, NothingToRedo, BadPiece) as error:
                    with self.assertRaises(type(error)) as caught:
                        console.run(command)
                    self.assertEqual(vars(caught.exception), vars(error))
                    answer = type(error).__name__
                else:
                    answer = "ok" if answer is None else answer
                    self.assertEqual(console.run(command), answer)
                if answer in ("no", "!"):
                    self.assertEqual(console.run(command), answer)
                self.assertEqual(console.run("names"), told_word(" ".join(house.names)))
                kind = command.split(" ")[0], answer if answer in ("ok", "no", "!", "yes") or answer[0].isupper() else "told"
                seen[kind] = seen.get(kind, 0) + 1
        self.assertTrue({("found", "ok"), ("found", "no"), ("bring", "ok"), ("bring", "no"), ("lag", "ok"), ("lag", "no"), ("plain", "ok"),
                         ("plain", "no"), ("window", "ok"), ("window", "no"), ("least", "told"), ("least", "!"), ("cast", "told"), ("cast", "!"),
                         ("cast", "BadPiece"), ("right", "yes"), ("right", "no"), ("drop", "ok"), ("drop", "NoName"), ("undo", "ok"),
                         ("undo", "NothingToUndo"), ("redo", "ok"), ("redo", "NothingToRedo")} <= set(seen), seen)

    def any_command(self, rng, house):
        """A command, and a call of a house that does the same."""
        name = rng.choice(house.names) if house.names and rng.random() < 0.9 else rng.choice(("a", "next", "abcdefgh", "b"))
        rules = rng.choice(rng.choice((oracle_house.full_rules(), [oracle_house.NEVER, oracle.ANY], oracle_house.NOT_FULL + [oracle.FAR])))
        number = rng.randint(0, 5)
        speech = "".join(rng.choice("aabbq" if rng.random() < 0.1 else "ab") for _ in range(rng.randint(0, 6)))
        caption = "".join(rng.choice("ab") for _ in speech)

        def least():
            lag = least_lag(house.in_use(name), 5)
            return "!" if lag is None else str(lag)

        return rng.choice((
            (f"found {name} {text(rules)}", lambda: house.found(name, rules)), (f"bring {name} {text(rules)}", lambda: house.bring(name, rules)),
            (f"found {name} {text(rules)}", lambda: house.found(name, rules)), (f"bring {name} {text(rules)}", lambda: house.bring(name, rules)),
            (f"lag {name} {number}", lambda: house.add_promise(name, ("lag", number))),
            (f"plain {name} {number}", lambda: house.add_promise(name, ("plain", number))),
            (f"window {name} {number + 1}", lambda: house.add_promise(name, ("window", number + 1))),
            (f"least {name}", least), (f"cast {name} {told_word(speech)}", lambda: told_word(house.cast(name, speech))),
            (f"right {name} {told_word(speech)} {told_word(caption)}",
             lambda: "yes" if house.in_use(name).is_right(speech, caption) else "no"),
            (f"drop {name}", lambda: house.drop(name)), ("undo", house.undo), ("redo", house.redo), ("undo", house.undo),
            ("names", lambda: told_word(" ".join(house.names)))))

    def test_two_consoles(self):
        one, other = Console(), Console()
        one.run("found a " + ANY)
        self.assertEqual([one.run("names"), other.run("names")], ["a", "-"])

    def test_by_name(self):
        self.assertEqual(Console().run(command="names"), "-")


if __name__ == "__main__":
    unittest.main()
