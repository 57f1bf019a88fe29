"""The interface: names, arguments, and where they are defined."""

import copy
import inspect
import unittest

from helpers import refused_at
from tellsnone import errors, game, ratio
from tellsnone.errors import BadText
from tellsnone.game import Game, game_text, read_game

CLASSES = {
    errors: ("PlayError", "BadText", "BadPaper", "BadCall", "BadPlayer", "BadStep", "BadBound", "TooLarge"),
    ratio: ("Ratio",),
    game: ("Game",),
}


def arguments(function):
    return [name for name in inspect.signature(function).parameters]


class TestInterface(unittest.TestCase):

    def test_classes_and_functions_stand_in_their_files(self):
        for module, names in CLASSES.items():
            for name in names:
                self.assertTrue(inspect.isclass(vars(module)[name]))
                self.assertEqual(vars(module)[name].__module__, module.__name__)
        for function in (read_game, game_text):
            self.assertEqual(function.__module__, game.__name__)

    def test_methods_stand_in_their_classes(self):
        for name in ("__init__", "__add__", "__sub__", "__mul__", "__eq__", "__str__", "below"):
            self.assertTrue(inspect.isfunction(vars(ratio.Ratio)[name]))
        for name in ("__init__", "__eq__", "proc"):
            self.assertTrue(inspect.isfunction(vars(Game)[name]))

    def test_arguments(self):
        self.assertEqual(arguments(ratio.Ratio), ["num", "den"])
        self.assertEqual(arguments(ratio.Ratio.below), ["self", "other"])
        self.assertEqual(arguments(Game), ["variables", "tables", "lots", "procs"])
        self.assertEqual(arguments(Game.proc), ["self", "name"])
        self.assertEqual(arguments(read_game), ["text", "asked"])
        self.assertEqual(arguments(game_text), ["game"])

    def test_arguments_by_name(self):
        text = "proc p 1 1 x ask x r 1 answer x end"
        self.assertEqual(game_text(game=read_game(text=text, asked=("r",))), text)

    def test_default_values(self):
        self.assertEqual(inspect.signature(ratio.Ratio).parameters["den"].default, 1)
        self.assertEqual(inspect.signature(read_game).parameters["asked"].default, ())

    def test_bad_text_is_what_a_text_is_refused_with(self):
        for text in (" ", "var", "proc p 1 1 x answer y end", "\n"):
            with self.assertRaises(BadText) as caught:
                read_game(text)
            self.assertIs(type(caught.exception), BadText)
            self.assertEqual(caught.exception.at, refused_at(text))

    def test_arguments_stay_as_they_were(self):
        asked = ["r", "s"]
        text = "var a 5 0 proc p 1 1 x ask x r 1 answer x end"
        made = read_game(text, asked)
        self.assertEqual(asked, ["r", "s"])
        before = copy.deepcopy(vars(made))
        game_text(made)
        made.proc("p")
        self.assertTrue(made == read_game(text, asked))
        self.assertEqual(vars(made), before)
        self.assertEqual(refused_at(text, asked + ["A"]), None)


if __name__ == "__main__":
    unittest.main()
