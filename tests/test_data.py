"""Point 7: the data of games, their texts, `==` and `proc`."""

import unittest

from helpers import block_of
from tellsnone.game import Game, game_text, read_game

TEXT = (
    "var a 9 3 var b 65535 0 table t 4 5 lots o 8 7 lots u 64 1 "
    "proc p 6 5 x local y local z "
    "set a + x 1 let y mod a b draw z 3 put t x - z 1 lot y o * y y ask x r < x z "
    "if has t x bad else let x 2 set b / x y end if = x 0 end after let x cell t 0 end bad "
    "answer cell t x end "
    "proc r 1 64 x answer 7 end"
)
X, Y, Z = ("local", "x"), ("local", "y"), ("local", "z")
A, B = ("variable", "a"), ("variable", "b")


def number(value):
    return ("number", value)


BLOCK = (
    ("set", "a", ("+", X, number(1))),
    ("let", "y", ("mod", A, B)),
    ("draw", "z", 3),
    ("put", "t", X, ("-", Z, number(1))),
    ("lot", "y", "o", ("*", Y, Y)),
    ("ask", "x", "r", ("<", X, Z)),
    ("if", ("has", "t", X), (("bad",),), (("let", "x", number(2)), ("set", "b", ("/", X, Y)))),
    ("if", ("=", X, number(0)), (), ()),
    ("after", (("let", "x", ("cell", "t", number(0))),)),
    ("bad",),
)
VARIABLES = (("a", 9, 3), ("b", 65535, 0))
TABLES = (("t", 4, 5),)
LOTS = (("o", 8, 7), ("u", 64, 1))
PROCS = (
    ("p", 6, 5, ("x", "y", "z"), BLOCK, ("cell", "t", X)),
    ("r", 1, 64, ("x",), (), number(7)),
)


def is_plain(value):
    """Whether data has tuples, strings and integers in it and nothing else."""
    if type(value) is tuple:
        return all(is_plain(part) for part in value)
    return type(value) in (str, int)


class TestData(unittest.TestCase):

    def test_data_of_a_game(self):
        game = read_game(TEXT, ("r",))
        self.assertIsInstance(game, Game)
        self.assertEqual(game.variables, VARIABLES)
        self.assertEqual(game.tables, TABLES)
        self.assertEqual(game.lots, LOTS)
        self.assertEqual(game.procs, PROCS)

    def test_data_is_of_plain_kinds(self):
        game = read_game(TEXT, ("r",))
        for part in (game.variables, game.tables, game.lots, game.procs):
            self.assertIs(type(part), tuple)
            self.assertTrue(is_plain(part))

    def test_empty_game(self):
        game = read_game("")
        self.assertEqual((game.variables, game.tables, game.lots, game.procs), ((), (), (), ()))

    def test_text_again(self):
        self.assertEqual(game_text(read_game(TEXT, ("r",))), TEXT)
        self.assertEqual(game_text(Game(VARIABLES, TABLES, LOTS, PROCS)), TEXT)
        self.assertEqual(read_game(game_text(Game(VARIABLES, TABLES, LOTS, PROCS)), ("r",)),
                         Game(VARIABLES, TABLES, LOTS, PROCS))

    def test_first_part_empty_and_second_not(self):
        data = (("if", X, (), (("bad",),)),)
        self.assertEqual(block_of("if x else bad end"), data)
        game = Game((), (), (), (("p", 1, 1, ("x",), data, X),))
        self.assertEqual(game_text(game), "proc p 1 1 x if x else bad end answer x end")

    def test_games_that_no_text_can_write(self):
        deep, many = number(1), ()
        for _ in range(30):
            deep, many = ("+", deep, X), (("after", many),)
        names = tuple(["x" + str(at) for at in range(20)])
        proc = ("p", 1, 1, ("x", *names), many, deep)
        text = " ".join(["proc p 1 1 x", *["local " + name for name in names], *["after"] * 30, *["end"] * 30,
                         "answer", *["+"] * 30, "1", *["x"] * 30, "end"])
        self.assertEqual(game_text(Game((), (), (), (proc,))), text)


class TestGame(unittest.TestCase):

    def test_attributes(self):
        game = Game(variables=VARIABLES, tables=TABLES, lots=LOTS, procs=PROCS)
        self.assertEqual((game.variables, game.tables, game.lots, game.procs), (VARIABLES, TABLES, LOTS, PROCS))

    def test_equal_games(self):
        self.assertTrue(read_game(TEXT, ("r",)) == Game(VARIABLES, TABLES, LOTS, PROCS))
        self.assertFalse(read_game(TEXT, ("r",)) != Game(VARIABLES, TABLES, LOTS, PROCS))
        self.assertTrue(Game((), (), (), ()) == read_game(""))

    def test_games_with_one_difference(self):
        game = Game(VARIABLES, TABLES, LOTS, PROCS)
        others = (
            Game(VARIABLES[:1], TABLES, LOTS, PROCS), Game((("a", 9, 4), VARIABLES[1]), TABLES, LOTS, PROCS),
            Game(VARIABLES, (), LOTS, PROCS), Game(VARIABLES, (("t", 4, 6),), LOTS, PROCS),
            Game(VARIABLES, TABLES, LOTS[1:], PROCS), Game(VARIABLES, TABLES, (LOTS[1], LOTS[0]), PROCS),
            Game(VARIABLES, TABLES, LOTS, PROCS[:1]), Game(VARIABLES, TABLES, LOTS, (PROCS[1], PROCS[0])),
            Game(VARIABLES, TABLES, LOTS, (PROCS[0], ("r", 1, 64, ("x",), (), number(6)))),
        )
        for other in others:
            self.assertFalse(game == other)
            self.assertFalse(other == game)
            self.assertTrue(game != other)

    def test_other_values_are_not_equal(self):
        for value in (None, "", (), ((), (), (), ())):
            self.assertFalse(Game((), (), (), ()) == value)

    def test_proc(self):
        game = Game(VARIABLES, TABLES, LOTS, PROCS)
        self.assertEqual(game.proc("p"), PROCS[0])
        self.assertEqual(game.proc("r"), PROCS[1])
        self.assertEqual(game.proc(name="r"), PROCS[1])
        for name in ("q", "a", "t", "o", "x", "", "proc", "pp"):
            self.assertIsNone(game.proc(name))
        self.assertIsNone(Game((), (), (), ()).proc("p"))


if __name__ == "__main__":
    unittest.main()
