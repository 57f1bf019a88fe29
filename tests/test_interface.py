"""The interface: names, arguments, and where they are defined."""

import copy
import inspect
import unittest

from helpers import refused_at
from tellsnone import best, bounds, contexts, derivation, errors, game, papers, players, playertext, ratio, running
from tellsnone import spelling, tactics, until
from tellsnone.errors import BadText
from tellsnone.game import Game, game_text, read_game

CLASSES = {
    errors: ("PlayError", "BadText", "BadPaper", "BadCall", "BadPlayer", "BadStep", "BadBound", "TooLarge"),
    ratio: ("Ratio",),
    game: ("Game",),
    running: ("Runner",),
    bounds: ("Bound",),
    derivation: ("Derivation",),
    tactics: ("Tactic",),
}
METHODS = {
    ratio.Ratio: ("__init__", "__add__", "__sub__", "__mul__", "__eq__", "__str__", "below"),
    Game: ("__init__", "__eq__", "proc"),
    running.Runner: ("__init__", "ends"),
    bounds.Bound: ("__init__", "__eq__", "at", "plus", "within"),
    derivation.Derivation: ("__init__", "step"),
    tactics.Tactic: ("__init__", "__eq__"),
}
FUNCTIONS = {
    game: {"read_game": ["text", "asked"], "game_text": ["game"]},
    running: {"first_state": ["game"]},
    players: {"check_player": ["game", "player"], "calls_of": ["player"], "chance": ["game", "player"]},
    best: {
        "best_player": ["game", "other", "calls"], "apart": ["game", "other", "calls"],
        "refuting_player": ["game", "other", "calls", "claim"],
    },
    bounds: {"nothing": []},
    until: {"alike": ["game", "other"], "counted": ["game"]},
    spelling: {"spell": ["game", "name"]},
    contexts: {"asks": ["context"], "compose": ["context", "game"]},
    derivation: {"same": ["game", "step"]},
    playertext: {"read_player": ["text"], "player_text": ["player"]},
    tactics: {
        "read_tactic": ["text"], "tactic_text": ["tactic"], "chance_of": ["game", "tactic", "calls"],
        "player_of": ["game", "tactic", "calls"],
    },
    papers: {
        "paper_lines": ["first", "steps"], "read_paper": ["lines"], "judged": ["lines"], "derived": ["first", "steps"],
    },
}


def arguments(function):
    return [name for name in inspect.signature(function).parameters]


class TestInterface(unittest.TestCase):

    def test_classes_and_functions_stand_in_their_files(self):
        for module, names in CLASSES.items():
            for name in names:
                self.assertTrue(inspect.isclass(vars(module)[name]))
                self.assertEqual(vars(module)[name].__module__, module.__name__)
        for module, functions in FUNCTIONS.items():
            for name in functions:
                self.assertTrue(inspect.isfunction(vars(module)[name]))
                self.assertEqual(vars(module)[name].__module__, module.__name__)

    def test_methods_stand_in_their_classes(self):
        for kind, names in METHODS.items():
            for name in names:
                self.assertTrue(inspect.isfunction(vars(kind)[name]), (kind, name))

    def test_arguments(self):
        self.assertEqual(arguments(ratio.Ratio), ["num", "den"])
        self.assertEqual(arguments(ratio.Ratio.below), ["self", "other"])
        self.assertEqual(arguments(Game), ["variables", "tables", "lots", "procs"])
        self.assertEqual(arguments(Game.proc), ["self", "name"])
        self.assertEqual(arguments(running.Runner), ["game"])
        self.assertEqual(arguments(running.Runner.ends), ["self", "state", "procedure", "number"])
        self.assertEqual(arguments(bounds.Bound), ["flat", "first", "more", "limit"])
        self.assertEqual(arguments(bounds.Bound.at), ["self", "calls"])
        self.assertEqual(arguments(bounds.Bound.plus), ["self", "other"])
        self.assertEqual(arguments(bounds.Bound.within), ["self", "asks"])
        self.assertEqual(arguments(derivation.Derivation), ["game"])
        self.assertEqual(arguments(derivation.Derivation.step), ["self", "step"])
        self.assertEqual(arguments(tactics.Tactic), ["rules"])
        for module, functions in FUNCTIONS.items():
            for name, expected in functions.items():
                self.assertEqual(arguments(vars(module)[name]), expected, name)

    def test_arguments_by_name(self):
        text = "proc p 1 1 x ask x r 1 answer x end"
        self.assertEqual(game_text(game=read_game(text=text, asked=("r",))), text)

    def test_default_values(self):
        self.assertEqual(inspect.signature(ratio.Ratio).parameters["den"].default, 1)
        self.assertEqual(inspect.signature(read_game).parameters["asked"].default, ())
        self.assertIsNone(inspect.signature(bounds.Bound).parameters["limit"].default)

    def test_bad_text_is_what_a_text_is_refused_with(self):
        for text in (" ", "var", "proc p 1 1 x answer y end", "\n"):
            with self.assertRaises(BadText) as caught:
                read_game(text)
            self.assertIs(type(caught.exception), BadText)
            self.assertEqual(caught.exception.at, refused_at(text))

    def test_arguments_stay_as_they_were(self):
        asked = ["r", "s"]
        text = "var a 5 0 proc p 1 1 x ask x r 1 answer x end"
        made = read_game(text, asked)
        self.assertEqual(asked, ["r", "s"])
        before = copy.deepcopy(vars(made))
        game_text(made)
        made.proc("p")
        self.assertTrue(made == read_game(text, asked))
        self.assertEqual(vars(made), before)
        self.assertEqual(refused_at(text, asked + ["A"]), None)


if __name__ == "__main__":
    unittest.main()
