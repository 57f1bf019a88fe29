"""What the tests of steps use."""

import copy
import unittest

from tellsnone.derivation import same
from tellsnone.errors import BadStep
from tellsnone.game import Game, game_text, read_game

ROWS = "var a 9 3 var n 9 0 table t 4 5 table n 3 2 table x 2 2 lots o 8 7 lots n 3 3 lots x 2 2 "


def proc(statements="", result="0", name="p", inner="x local y local z"):
    """The text of a procedure."""
    block = [statements] if statements else []
    return " ".join([f"proc {name} 6 5 {inner}", *block, f"answer {result} end"])


def game_with(statements="", result="0"):
    """The text of a game with one procedure."""
    return ROWS + proc(statements, result)


class StepCase(unittest.TestCase):

    def leads(self, step, before, after):
        """Checks to which game a step leads, and that the first one stays as it was."""
        game = before if isinstance(before, Game) else read_game(before)
        parts = copy.deepcopy(vars(game))
        found = same(game, step)
        self.assertIs(type(found), Game)
        self.assertEqual(game_text(found), after)
        self.assertEqual(vars(found), vars(read_game(after)))
        self.assertEqual(vars(game), parts)

    def block_leads(self, step, before, after, result="0"):
        """The same for the statements of a game with one procedure."""
        self.leads(step, game_with(before, result), game_with(after, result))

    def refuses(self, step, before, rule=None):
        """Checks that a step does not hold."""
        game = before if isinstance(before, Game) else read_game(before)
        parts = copy.deepcopy(vars(game))
        with self.assertRaises(BadStep, msg=(step, before)) as caught:
            same(game, step)
        self.assertIs(type(caught.exception), BadStep)
        self.assertEqual(caught.exception.rule, step[0] if rule is None else rule)
        self.assertEqual(vars(game), parts)

    def block_refuses(self, step, statements, result="0"):
        """The same for the statements of a game with one procedure."""
        self.refuses(step, game_with(statements, result))
