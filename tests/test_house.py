"""Promises, the house with its gate, its log, and what is tried in it."""

import random
import unittest

from pacehouse.errors import (
    BadName, BadPiece, BadPlace, BadPromise, BadRules, Broken, CaptionError, Mute, NoLag, NoName, NothingToRedo, NothingToUndo,
    OtherLetters)
from pacehouse.house import House, first_broken, is_promise, keeps
from pacehouse.lateplans import least_lag
from pacehouse.rules import Rules
from pacehouse.studios import Studio
from tests import odd, oracle, oracle_house
from tests.test_shown import NOT_FULL

NO_NAMES = odd.VALUES + ("next2", "NEXT", "ninthword", "ne xt", "next\n", "-", ("next",), ["next"], {"next": 1}, oracle.NEXT, "gone")
NO_PROMISES = odd.VALUES + (
    ("lag",), ("lag", -1), ("lag", True), ("lag", "1"), ("lag", None), ("lag", 1, 1), ["lag", 1], ("Lag", 1), ("window", 0),
    ("window", -1), ("window", True), ("window", 1, 1), ("window",), ("mends", 1), ("mends", 0, 1), ("mends", 1, -1), ("mends", True, 1),
    ("mends", 1, False), ("mends", 1, 1, 1), ("mends", "1", 1), ("plain", -1), ("plain", False), ("plain", 0, 0), ("plain",), ("never", 1),
    (("lag", 1),), ("lag", (1,)), ("lag", 10 ** 39, 0), (["lag"], 1), ("lag", [1]), "lag", ("", 1), (1, "lag"))


def full(at):
    rules = oracle_house.full_rules()
    return rules[at % len(rules)]


class PromisesTest(unittest.TestCase):
    def test_each_promise_beside_slow_looks(self):
        seen = {}
        for rules in oracle_house.full_rules():
            told = str(rules)
            for promise in oracle_house.PROMISES:
                kept = oracle_house.keeps(rules, promise)
                self.assertIs(keeps(rules, promise), kept, (str(rules), promise))
                broken = first_broken(rules, (promise,))
                if kept:
                    self.assertIsNone(broken)
                else:
                    self.assertEqual(broken[0], promise)
                    self.assertTrue(oracle_house.breaks(rules, promise, broken[1]), (str(rules), broken))
                    self.assertEqual(first_broken(rules, (promise,)), broken)
                kind = promise[0] if kept else broken[1][0]
                seen[kind, kept] = seen.get((kind, kept), 0) + 1
            self.assertEqual(str(rules), told)
        self.assertTrue(set(seen) == {("lag", True), ("window", True), ("plain", True), ("mends", True), ("baffle", False),
                                      ("wrong", False), ("needs", False), ("ring", False), ("back", False)}, seen)
        self.assertTrue(min(seen.values()) > 4, seen)

    def test_back_only_where_there_is_no_ring(self):
        self.assertEqual(first_broken(oracle.PROMISE, (("plain", 3),))[1][0], "ring")
        self.assertEqual(first_broken(oracle.NEXT, (("plain", 0),)), (("plain", 0), ("back", "ab")))
        self.assertEqual(first_broken(oracle.LATER, (("plain", 1),))[1][0], "back")
        self.assertIsNone(first_broken(oracle.LATER, (("plain", 2),)))

    def test_first_of_several(self):
        rng = random.Random(621)
        for rules in oracle_house.full_rules():
            for _ in range(6):
                promises = tuple(rng.choice(oracle_house.PROMISES) for _ in range(rng.randint(0, 5)))
                broken = [promise for promise in promises if not keeps(rules, promise)]
                told = first_broken(rules, promises)
                self.assertEqual(told and told[0], broken[0] if broken else None)
        self.assertIsNone(first_broken(oracle.NEXT, ()))

    def test_mute(self):
        for rules in NOT_FULL:
            for call, told in ((keeps, ("lag", 0)), (keeps, None), (first_broken, ()), (first_broken, (("lag", 0),)), (first_broken, None)):
                with self.assertRaises(Mute) as caught:
                    call(rules, told)
                self.assertEqual(caught.exception.speech, oracle.first_mute(rules))

    def test_values_of_all_kinds(self):
        for thing in NO_PROMISES:
            self.assertIs(is_promise(thing), False, thing)
        for thing in oracle_house.PROMISES + (("lag", 10 ** 39), ("window", 10 ** 39), ("mends", 6, 8), ("plain", 10 ** 39), ("lag", 5)):
            self.assertIs(is_promise(thing), True, thing)
        for at, promise in enumerate(oracle_house.PROMISES):
            for thing in odd.variants(promise, at, 60):
                self.assertIs(is_promise(thing), oracle_house.is_promise(thing), thing)

    def test_by_name(self):
        self.assertIs(keeps(promise=("lag", 1), rules=oracle.NEXT), True)
        self.assertEqual(first_broken(promises=(("lag", 1), ("lag", 0)), rules=oracle.NEXT)[0], ("lag", 0))
        self.assertIs(is_promise(thing=("mends", 2, 0)), True)


class Looks(unittest.TestCase):
    def check_same(self, house, model):
        """Whether a house tells what a model of it tells."""
        self.assertTrue(odd.same_kind(house.names, model.told()["names"]))
        self.assertEqual(oracle_house.told(house), model.told())
        self.assertEqual(len(house), len(model.kept))
        for name in model.kept:
            self.assertIs(name in house, True)
            self.assertTrue(house.in_use(name) is model.kept[name][0][-1])

    def check_raises(self, error, told, call, *parts, **named):
        """Whether a call raises an error with these attributes."""
        with self.assertRaises(error) as caught:
            call(*parts, **named)
        self.assertIs(type(caught.exception), error)
        for name, value in told.items():
            kept = getattr(caught.exception, name)
            self.assertTrue(kept is value or odd.same_kind(kept, value), (kept, value))


class HouseTest(Looks):
    def test_empty(self):
        house = House()
        self.check_same(house, oracle_house.Model())
        self.assertTrue(odd.same_kind((house.names, house.log, len(house)), ((), (), 0)))
        self.check_raises(NothingToUndo, {}, house.undo)
        self.check_raises(NothingToRedo, {}, house.redo)
        self.check_raises(BadPlace, {"place": 0}, house.stands, 0)
        for thing in NO_NAMES:
            self.assertIs(thing in house, False)

    def test_names(self):
        house = House()
        for name in ("next", "a", "zzzzzzzz", "abcdefgh"):
            self.assertIsNone(house.found(name, oracle.NEXT))
        self.assertEqual(house.names, ("a", "abcdefgh", "next", "zzzzzzzz"))
        self.assertEqual(len(house), 4)
        self.assertIs("next" in house, True)
        for thing in NO_NAMES:
            self.assertIs(thing in house, thing == "a")

    def test_editions_and_promises(self):
        house = House()
        house.found("next", oracle.NEXT, (("lag", 1), ("plain", 1)))
        house.add_promise("next", ("window", 2))
        house.add_promise("next", ("window", 2))
        self.assertEqual(house.promises("next"), (("lag", 1), ("plain", 1), ("window", 2), ("window", 2)))
        again = Rules(oracle.NEXT.heard, oracle.NEXT.written, oracle.NEXT.rows)
        self.assertIsNone(house.bring("next", again))
        house.bring("next", oracle.ANY)
        self.assertEqual(house.editions("next"), (oracle.NEXT, oracle.NEXT, oracle.ANY))
        self.assertTrue(house.in_use("next") is oracle.ANY)
        self.check_raises(Broken, {"promise": ("lag", 1)}, house.bring, "next", oracle.LATER)
        self.assertEqual(len(house.editions("next")), 3)

    def test_rows_of_changes(self):
        """Changes of all kinds in rows, some taken back and made again, beside a model."""
        rng = random.Random(631)
        names = ("a", "bb", "next", "lastlast")
        seen = {}
        for _ in range(24):
            house, model = House(), oracle_house.Model()
            for _ in range(50):
                call, parts = self.any_call(rng, names, model)
                try:
                    told = getattr(house, call)(*parts)
                    outcome = "done"
                except CaptionError as error:
                    outcome = type(error).__name__
                seen[call, outcome] = seen.get((call, outcome), 0) + 1
                if outcome == "done":
                    if call == "cast":
                        model.log.append((*parts, told))
                    else:
                        self.assertIsNone(told)
                        getattr(model, call)(*parts)
                self.check_same(house, model)
            while model.past:
                house.undo()
                model.undo()
                self.check_same(house, model)
            self.check_raises(NothingToUndo, {}, house.undo)
            while model.future:
                house.redo()
                model.redo()
                self.check_same(house, model)
            self.check_raises(NothingToRedo, {}, house.redo)
        done = {call for call, outcome in seen if outcome == "done"}
        self.assertEqual(done, {"found", "add_promise", "bring", "drop", "undo", "redo", "cast"}, seen)
        self.assertTrue({outcome for _, outcome in seen} >= {
            "BadName", "Mute", "Broken", "NoName", "NothingToUndo", "NothingToRedo", "OtherLetters", "NoLag"}, seen)

    def any_call(self, rng, names, model):
        """A call of any kind, one that changes something more often than not."""
        name = rng.choice(sorted(model.kept)) if model.kept and rng.random() < 0.9 else rng.choice(names)
        rules = rng.choice(rng.choice((oracle_house.full_rules(), [oracle.ANY, oracle_house.NEVER], oracle_house.NOT_FULL + [oracle.FAR])))
        promise = rng.choice(oracle_house.PROMISES)
        speech = "".join(rng.choice("ab") for _ in range(rng.randint(0, 12)))
        return rng.choice((
            ("found", (rng.choice(names), rules)), ("found", (rng.choice(names), rules, (promise,))), ("add_promise", (name, promise)),
            ("add_promise", (name, promise)), ("bring", (name, rules)), ("bring", (name, rules)), ("drop", (name,)), ("undo", ()),
            ("undo", ()), ("redo", ()), ("redo", ()), ("cast", (name, speech)), ("cast", (name, speech))))

    def test_each_edition_keeps_what_was_promised_when_it_came_in(self):
        rng = random.Random(632)
        brought = 0
        for _ in range(30):
            house = House()
            house.found("name", rng.choice(oracle_house.full_rules()))
            for _ in range(8):
                promise = rng.choice(oracle_house.PROMISES)
                try:
                    house.add_promise("name", promise)
                except Broken as error:
                    self.assertTrue(oracle_house.breaks(house.in_use("name"), error.promise, error.paper))
                promises = house.promises("name")
                rules = rng.choice(oracle_house.full_rules())
                broken = [promise for promise in promises if not oracle_house.keeps(rules, promise)]
                if broken:
                    with self.assertRaises(Broken) as caught:
                        house.bring("name", rules)
                    self.assertEqual(caught.exception.promise, broken[0])
                    self.assertTrue(oracle_house.breaks(rules, broken[0], caught.exception.paper))
                else:
                    house.bring("name", rules)
                    brought += 1
        self.assertTrue(brought > 20)

    def test_a_change_behind_an_undo(self):
        house = House()
        house.found("a", oracle.NEXT)
        house.found("b", oracle.ANY)
        house.undo()
        house.cast("a", "ab")
        house.studio("a", 1)
        self.check_raises(BadName, {"name": "a"}, house.found, "a", oracle.ANY)
        self.check_raises(Broken, {"promise": ("lag", 0)}, house.add_promise, "a", ("lag", 0))
        house.redo()
        self.assertEqual(house.names, ("a", "b"))
        house.undo()
        house.add_promise("a", ("lag", 1))
        self.check_raises(NothingToRedo, {}, house.redo)
        house.undo()
        house.undo()
        self.assertEqual(house.names, ())
        house.redo()
        house.redo()
        self.assertEqual((house.names, house.promises("a")), (("a",), (("lag", 1),)))
        self.assertEqual(house.log, (("a", "ab", "ba"),))


class ErrorsTest(Looks):
    def house(self):
        house = House()
        house.found("next", oracle.NEXT, (("lag", 1),))
        house.found("any", oracle.ANY)
        house.found("late", Rules("ab", "ab", oracle.FREELY and (oracle.FREELY,)), ())
        house.drop("late")
        house.undo()
        house.cast("next", "ab")
        return house

    def check_nothing_changed(self, house, told):
        self.assertEqual(oracle_house.told(house), told)
        house.redo()
        self.assertEqual(house.names, ("any", "next"))
        house.undo()
        self.assertEqual(oracle_house.told(house), told)

    def test_no_name_ahead_of_all_else(self):
        house = self.house()
        told = oracle_house.told(house)
        for name in NO_NAMES:
            for call, parts in ((house.editions, ()), (house.in_use, ()), (house.promises, ()), (house.add_promise, (("lag", 1),)),
                                (house.add_promise, (None,)), (house.bring, (oracle.NEXT,)), (house.bring, (None,)), (house.drop, ()),
                                (house.cast, ("ab",)), (house.cast, (None,)), (house.studio, (1,)), (house.studio, (0,))):
                self.check_raises(NoName, {"name": name}, call, name, *parts)
        self.check_nothing_changed(house, told)

    def test_found(self):
        """BadName, BadRules, BadPromise, Mute, Broken: in this order, with all that come behind at once."""
        house = self.house()
        told = oracle_house.told(house)
        bad = (("lag", 0), None, ("lag", True))
        for name in ("next", "any", "next2", "", "ninthword", "Next", None, 5, ("next",), ["a"], {"a": 1}, oracle.NEXT, "a b", "a\n", True):
            self.check_raises(BadName, {"name": name}, house.found, name, None, None)
            self.check_raises(BadName, {"name": name}, house.found, name, oracle.LATE, bad)
            self.check_raises(BadName, {"name": name}, house.found, name, oracle.NEXT)
        for thing in odd.VALUES + (str(oracle.NEXT), oracle.NEXT.rows, House(), House):
            if not isinstance(thing, Rules):
                self.check_raises(BadRules, {"part": "rules"}, house.found, "new", thing, None)
                self.check_raises(BadRules, {"part": "rules"}, house.found, "new", thing)
        for rules in (oracle.LATE, oracle.NEXT):
            for promises in (None, [("lag", 1)], "lag", {}, {("lag", 1): 1}, 5, True):
                self.check_raises(BadPromise, {"thing": promises}, house.found, "new", rules, promises)
            for thing in NO_PROMISES:
                self.check_raises(BadPromise, {"thing": thing}, house.found, "new", rules, (("lag", 0), thing, None))
        self.check_raises(BadPromise, {"thing": "lag"}, house.found, "new", oracle.NEXT, ("lag", 1))
        self.check_raises(Mute, {"speech": "b"}, house.found, "new", oracle.LATE, (("lag", 0),))
        self.check_raises(Mute, {"speech": "b"}, house.found, "new", oracle.LATE)
        self.check_raises(Broken, {"promise": ("lag", 0)}, house.found, "new", oracle.NEXT, (("lag", 1), ("lag", 0), ("plain", 0)))
        self.check_raises(Broken, {"promise": ("plain", 0), "paper": ("back", "ab")}, house.found, "new", oracle.NEXT, (("plain", 0), ("lag", 0)))
        self.check_nothing_changed(house, told)

    def test_add_promise(self):
        house = self.house()
        told = oracle_house.told(house)
        for thing in NO_PROMISES:
            self.check_raises(BadPromise, {"thing": thing}, house.add_promise, "next", thing)
        self.check_raises(BadPromise, {"thing": (("lag", 1),)}, house.add_promise, "next", (("lag", 1),))
        for promise in oracle_house.PROMISES:
            if not keeps(oracle.NEXT, promise):
                self.check_raises(Broken, {"promise": promise}, house.add_promise, "next", promise)
        self.check_nothing_changed(house, told)

    def test_bring(self):
        """NoName, BadRules, OtherLetters, Mute, Broken."""
        house = self.house()
        told = oracle_house.told(house)
        self.check_raises(NoName, {"name": "gone"}, house.bring, "gone", None)
        for thing in odd.VALUES + (str(oracle.NEXT), House()):
            if not isinstance(thing, Rules):
                self.check_raises(BadRules, {"part": "rules"}, house.bring, "next", thing)
        for rules in (oracle.FAR, oracle.SILENT, oracle.DEAD, Rules("ab", "abc", oracle.LATE.rows), Rules("abc", "ab", ((),))):
            self.check_raises(OtherLetters, {}, house.bring, "next", rules)
        for rules in oracle_house.NOT_FULL:
            self.check_raises(Mute, {"speech": oracle.first_mute(rules)}, house.bring, "next", rules)
        self.check_raises(Broken, {"promise": ("lag", 1)}, house.bring, "next", oracle.LATER)
        self.check_nothing_changed(house, told)

    def test_places_of_the_log(self):
        house = self.house()
        for place in tuple(value for value in odd.VALUES if type(value) is not int) + (-1, 1, 10 ** 39, "0", True, False, (0,), None):
            self.check_raises(BadPlace, {"place": place}, house.stands, place)
        self.assertIs(house.stands(0), True)


class LogTest(Looks):
    def test_cast(self):
        rng = random.Random(641)
        for rules in oracle_house.full_rules() + [oracle.FAR, oracle.LATER]:
            house = House()
            house.found("name", rules)
            lag = least_lag(rules, 5)
            for many in (0, 1, 2, 7, 60):
                speech = "".join(rng.choice(rules.heard) for _ in range(many))
                if lag is None:
                    self.check_raises(NoLag, {"lag": 5}, house.cast, "name", speech)
                    self.assertEqual(house.log, ())
                    continue
                studio = Studio(rules, lag)
                caption = house.cast("name", speech)
                self.assertEqual(caption, studio.hear(speech) + studio.end())
                self.assertTrue(rules.is_right(speech, caption))
                self.assertTrue(odd.same_kind(house.log[-1], ("name", speech, caption)))
                self.assertIs(house.stands(len(house.log) - 1), True)

    def test_bad_speeches_ahead_of_no_lag(self):
        house = House()
        house.found("far", oracle.FAR)
        house.found("next", oracle.NEXT)
        for name in ("far", "next"):
            for thing in odd.VALUES + ("abq", ("a",), ["a"], "A", "ab\n"):
                if type(thing) is not str or not set(thing) <= set(house.in_use(name).heard):
                    place = -1 if type(thing) is not str else [at for at, c in enumerate(thing) if c not in house.in_use(name).heard][0]
                    self.check_raises(BadPiece, {"place": place}, house.cast, name, thing)
        self.check_raises(NoLag, {"lag": 5}, house.cast, "far", "ab")
        self.assertEqual(house.log, ())

    def test_stands_behind_later_editions_and_dropped_names(self):
        house = House()
        house.found("name", oracle.ANY)
        self.assertEqual([house.cast("name", "ab"), house.cast("name", "b"), house.cast("name", "")], ["aa", "a", ""])
        self.assertEqual([house.stands(at) for at in range(3)], [True] * 3)
        house.bring("name", oracle.ECHO)
        self.assertEqual([house.stands(at) for at in range(3)], [False, False, True])
        house.bring("name", oracle.NEXT)
        self.assertEqual([house.stands(at) for at in range(3)], [False, True, True])
        house.drop("name")
        self.assertEqual([house.stands(at) for at in range(3)], [False] * 3)
        self.assertEqual(house.log, (("name", "ab", "aa"), ("name", "b", "a"), ("name", "", "")))
        house.found("name", oracle.FAR)
        self.assertEqual([house.stands(at) for at in range(3)], [False, True, True])
        house.undo()
        house.undo()
        house.undo()
        self.assertEqual(house.in_use("name"), oracle.ECHO)
        self.assertEqual([house.stands(at) for at in range(3)], [False, False, True])
        house.undo()
        house.undo()
        self.assertEqual((house.names, len(house.log)), ((), 3))

    def test_log_stays_as_it_was_told(self):
        house = House()
        house.found("name", oracle.ANY)
        log, names = house.log, house.names
        house.cast("name", "a")
        house.drop("name")
        self.assertEqual((log, names), ((), ("name",)))


class StudioTest(Looks):
    def test_studios_go_on_by_their_own_edition(self):
        house = House()
        house.found("name", oracle.NEXT)
        studio = house.studio("name", 1)
        self.assertIsInstance(studio, Studio)
        self.assertEqual((studio.rules, studio.lag), (oracle.NEXT, 1))
        studio.hear("a")
        house.bring("name", oracle.ECHO)
        self.assertEqual(house.studio("name", 0).rules, oracle.ECHO)
        self.assertEqual(studio.hear("bb"), "bb")
        house.drop("name")
        house.undo()
        house.undo()
        house.undo()
        self.assertEqual(studio.hear("a"), "a")
        self.assertEqual((studio.rules, studio.spoken, studio.shown_now), (oracle.NEXT, "abba", "bbaa"))
        studio.undo()
        self.assertEqual(house.names, ())
        self.check_raises(NoName, {"name": "name"}, house.studio, "name", 1)

    def test_no_lag(self):
        house = House()
        for at, rules in enumerate(oracle_house.full_rules()[:25]):
            name = "abcdefghijklmnopqrstuvwxyz"[at]
            house.found(name, rules)
            for lag in range(4):
                if (0, "") in oracle.winning(rules, lag):
                    self.assertEqual(house.studio(name, lag).lag, lag)
                else:
                    self.check_raises(NoLag, {"lag": lag}, house.studio, name, lag)
        house.found("far", oracle.FAR)
        self.check_raises(NoLag, {"lag": 5}, house.studio, "far", 5)


class TriedTest(Looks):
    def house(self):
        house, model = House(), oracle_house.Model()
        for target in (house, model):
            target.found("next", oracle.NEXT, (("lag", 1),))
            target.found("any", oracle.ANY)
            target.bring("any", oracle.ECHO)
            target.undo()
        house.cast("next", "ab")
        model.log.append(("next", "ab", "ba"))
        return house, model

    def check_past_and_future(self, house, model):
        """What can be taken back and made again is as it was, too."""
        self.check_same(house, model)
        house.redo()
        self.assertEqual(house.editions("any"), (oracle.ANY, oracle.ECHO))
        self.check_raises(NothingToRedo, {}, house.redo)
        house.undo()
        house.undo()
        house.undo()
        self.check_raises(NothingToUndo, {}, house.undo)
        house.redo()
        house.redo()
        self.check_same(house, model)

    def test_actions_that_return(self):
        house, model = self.house()
        for action, told in ((lambda told: None, None), (lambda told: 5, 5), (lambda told: told.names, ("any", "next")),
                             (lambda told: told.cast("next", "abb"), "bba"), (lambda told: told.drop("next"), None),
                             (lambda told: (told.found("new", oracle.NEXT), told.names)[1], ("any", "new", "next")),
                             (lambda told: (told.undo(), told.undo(), told.names)[2], ()),
                             (lambda told: (told.redo(), told.editions("any"))[1], (oracle.ANY, oracle.ECHO)),
                             (lambda told: (told.cast("next", "a"), told.cast("any", "b"), len(told.log))[2], 3),
                             (lambda told: (told.add_promise("any", ("lag", 0)), told.promises("any"))[1], (("lag", 0),)),
                             (lambda told: (told.bring("any", oracle.TURNS), told.in_use("any"))[1], oracle.TURNS)):
            self.assertEqual(house.tried(action), told)
            self.check_past_and_future(house, model)
        self.assertTrue(house.tried(lambda told: told is house))
        self.assertEqual(house.tried(action=len), 2)

    def test_actions_that_raise(self):
        house, model = self.house()

        def wild(told):
            told.drop("next")
            told.cast("any", "ab")
            told.undo()
            told.undo()
            told.found("other", oracle.NEXT)
            raise KeyError("wild")

        def stopped(told):
            told.drop("any")
            raise KeyboardInterrupt

        for action, error in ((wild, KeyError), (stopped, KeyboardInterrupt), (lambda told: told.drop("gone"), NoName),
                              (lambda told: (told.cast("any", "a"), told.bring("next", oracle.LATER)), Broken),
                              (lambda told: [told.undo() for _ in range(9)], NothingToUndo)):
            with self.assertRaises(error):
                house.tried(action)
            self.check_past_and_future(house, model)

    def test_tried_within_tried(self):
        house, model = self.house()

        def outer(told):
            told.drop("any")
            names = told.tried(lambda again: (again.drop("next"), again.names)[1])
            return names, told.names

        self.assertEqual(house.tried(outer), ((), ("next",)))
        self.check_past_and_future(house, model)

    def test_studios_are_not_touched(self):
        house, model = self.house()
        studio = house.studio("next", 1)
        made = house.tried(lambda told: (studio.hear("ab"), told.studio("any", 0))[1])
        self.assertEqual((studio.spoken, made.rules), ("ab", oracle.ANY))
        made.hear("a")
        self.check_past_and_future(house, model)


class CallsTest(Looks):
    def test_by_name(self):
        told = str(oracle.NEXT)
        house = House()
        house.found(promises=(("lag", 1),), rules=oracle.NEXT, name="next")
        house.add_promise(promise=("window", 2), name="next")
        house.bring(rules=oracle.NEXT, name="next")
        self.assertEqual(house.editions(name="next"), (oracle.NEXT, oracle.NEXT))
        self.assertEqual(house.in_use(name="next"), oracle.NEXT)
        self.assertEqual(house.promises(name="next"), (("lag", 1), ("window", 2)))
        self.assertEqual(house.cast(speech="abba", name="next"), "bbaa")
        self.assertIs(house.stands(place=0), True)
        self.assertEqual(house.studio(lag=1, name="next").lag, 1)
        self.assertEqual(house.tried(action=lambda told: 3), 3)
        house.drop(name="next")
        self.assertEqual(str(oracle.NEXT), told)

    def test_two_houses(self):
        one, other = House(), House()
        one.found("a", oracle.ANY)
        self.assertEqual((one.names, other.names), (("a",), ()))
        self.check_raises(NothingToUndo, {}, other.undo)

    def test_greatest_limits(self):
        house = House()
        promises = (("lag", 5), ("window", 6), ("mends", 6, 8), ("plain", 5), ("mends", 1, 8))
        for name in ("one", "two", "three", "four", "five"):
            house.found(name, oracle.ECHO, tuple(promise for promise in promises if keeps(oracle.ECHO, promise)))
            for _ in range(5):
                house.bring(name, oracle.ECHO)
        self.assertEqual([len(house.editions(name)) for name in house.names], [6] * 5)
        for _ in range(30):
            house.undo()
        self.assertEqual(house.names, ())


if __name__ == "__main__":
    unittest.main()
