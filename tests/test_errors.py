"""The error classes: what each is made with, and what it is."""

import unittest

from pacehouse import errors

PARAMETERS = {
    "BadRules": ("part",), "BadText": ("line",), "OtherLetters": (), "Mute": ("speech",), "TooSoon": ("paper",),
    "Unjoined": ("letter",), "BadPair": ("part",), "OtherRules": (), "BadPlace": ("place",), "NothingToUndo": (),
    "NothingToRedo": (), "BadName": ("name",), "NoName": ("name",), "BadPromise": ("thing",),
    "Broken": ("promise", "paper"), "BadPiece": ("place",), "NoLag": ("lag",), "InvalidCommand": (),
}
VALUES = (None, 3, "rows", (), [1, {"a": []}], {"b": 2}, True, errors.CaptionError)


class ErrorsTest(unittest.TestCase):
    def test_base(self):
        self.assertEqual(errors.CaptionError.__bases__, (Exception,))

    def test_each_is_a_direct_subclass_and_none_of_the_others(self):
        for name in PARAMETERS:
            self.assertEqual(getattr(errors, name).__bases__, (errors.CaptionError,), name)

    def test_by_position_and_by_name(self):
        for name, parameters in PARAMETERS.items():
            for value in VALUES:
                told = [value, "paper"][:len(parameters)]
                for error in (getattr(errors, name)(*told), getattr(errors, name)(**dict(zip(parameters, told)))):
                    with self.assertRaises(errors.CaptionError) as caught:
                        raise error
                    for parameter, kept in zip(parameters, told):
                        self.assertIs(getattr(caught.exception, parameter), kept)

    def test_two_parameters_in_their_order(self):
        error = errors.Broken("promise", "paper")
        self.assertEqual((error.promise, error.paper), ("promise", "paper"))
        error = errors.Broken(paper=1, promise=2)
        self.assertEqual((error.promise, error.paper), (2, 1))

    def test_number_of_parameters(self):
        for name, parameters in PARAMETERS.items():
            if parameters:
                self.assertRaises(TypeError, getattr(errors, name))


if __name__ == "__main__":
    unittest.main()
