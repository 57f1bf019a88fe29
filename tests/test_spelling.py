"""Point 16: lots that are spelled out."""

import copy
import unittest

from tellsnone.errors import BadStep
from tellsnone.game import Game, game_text, read_game
from tellsnone.spelling import spell

MANY = "var a 9 3 table t 4 5 lots n 3 2 lots o 8 7 lots u 2 2 "
SPELLED = "var a 9 3 table t 4 5 table o 8 7 lots n 3 2 lots u 2 2 "


def look(key="x", local="y", name="o", drawn=7):
    """The words that a look at lots becomes."""
    return f"if has {name} {key} let {local} cell {name} {key} else draw {local} {drawn} put {name} {key} {local} end"


def proc(statements, name="p"):
    return f"proc {name} 6 5 x local y local z {statements} answer y end"


class Case(unittest.TestCase):

    def check(self, before, after, name="o"):
        """Checks what becomes of a game, and that it stays as it was."""
        game = read_game(before)
        parts = copy.deepcopy(vars(game))
        found = spell(game, name)
        self.assertIs(type(found), Game)
        self.assertEqual(game_text(found), after)
        self.assertEqual(vars(found), vars(read_game(after)))
        self.assertEqual(vars(game), parts)

    def refuse(self, text, name="o"):
        with self.assertRaises(BadStep, msg=text) as caught:
            spell(read_game(text), name)
        self.assertEqual(caught.exception.rule, "spell")


class TestSpell(Case):

    def test_one_look(self):
        self.check(MANY + proc("lot y o x"), SPELLED + proc(look()))
        self.check("lots o 1 1 proc p 1 1 x local y lot y o x answer y end",
                   "table o 1 1 proc p 1 1 x local y " + look(drawn=1) + " answer y end")

    def test_the_data_of_a_look(self):
        game = spell(game=read_game("lots o 8 7 proc p 1 1 x local y lot y o + x 2 answer y end"), name="o")
        key = ("+", ("local", "x"), ("number", 2))
        self.assertEqual(game.procs[0][4], ((
            "if", ("has", "o", key), (("let", "y", ("cell", "o", key)),),
            (("draw", "y", 7), ("put", "o", key, ("local", "y"))),
        ),))
        self.assertEqual((game.tables, game.lots), ((("o", 8, 7),), ()))

    def test_looks_in_other_statements(self):
        self.check(MANY + proc("lot y o x if x lot z o y else lot y o a set a 1 end after lot z o 3 if y lot x o 1 end end"),
                   SPELLED + proc(f"{look()} if x {look('y', 'z')} else {look('a')} set a 1 end "
                                  f"after {look('3', 'z')} if y {look('1', 'x')} end end"))
        self.check(MANY + proc("after after lot y o x end end if 1 if 2 else lot y o x end end"),
                   SPELLED + proc(f"after after {look()} end end if 1 if 2 else {look()} end end"))

    def test_several_looks(self):
        self.check(MANY + proc("lot y o x lot y o x lot z o y") + " " + proc("lot y o 2", "r"),
                   SPELLED + proc(f"{look()} {look()} {look('y', 'z')}") + " " + proc(look("2"), "r"))

    def test_no_look(self):
        self.check(MANY + proc("set a 1 lot y n x"), SPELLED + proc("set a 1 lot y n x"))
        self.check("lots o 2 3", "table o 2 3")

    def test_keys(self):
        for key in ("0", "x", "a", "has t x", "cell t z", "+ x z", "mod * x a - z 1", "+ + + + + + + 1 1 1 1 1 1 1 x"):
            before = MANY + proc(f"lot y o {key}")
            self.assertEqual(game_text(spell(read_game(before), "o")), SPELLED + proc(look(key)))

    def test_order_of_tables_and_lots(self):
        text = "table t 1 1 table v 2 2 lots k 3 3 lots m 4 4 lots n 5 5"
        self.check(text, "table t 1 1 table v 2 2 table k 3 3 lots m 4 4 lots n 5 5", "k")
        self.check(text, "table t 1 1 table v 2 2 table m 4 4 lots k 3 3 lots n 5 5", "m")
        self.check(text, "table t 1 1 table v 2 2 table n 5 5 lots k 3 3 lots m 4 4", "n")

    def test_other_lots_stay(self):
        self.check(MANY + proc("lot y n x lot y o x lot z u z lot x n x"),
                   SPELLED + proc(f"lot y n x {look()} lot z u z lot x n x"))

    def test_one_after_the_other(self):
        game = read_game(MANY + proc("lot y o x lot z u y lot x n z"))
        found = spell(spell(spell(game, "u"), "n"), "o")
        self.assertEqual(game_text(found), "var a 9 3 table t 4 5 table u 2 2 table n 3 2 table o 8 7 " + proc(
            f"{look()} {look('y', 'z', 'u', 2)} {look('z', 'x', 'n', 2)}"))

    def test_names_of_other_kinds(self):
        self.check("var o 9 0 lots o 2 2 proc o 1 1 x local y lot y o o set o y answer o end",
                   "var o 9 0 table o 2 2 proc o 1 1 x local y " + look("o", drawn=2) + " set o y answer o end")
        self.check("lots o 2 2 proc p 1 1 o local y lot y o o answer y end",
                   "table o 2 2 proc p 1 1 o local y " + look("o", drawn=2) + " answer y end")

    def test_seven_tables(self):
        text = " ".join([f"table t{at} 1 1" for at in range(6)])
        self.assertEqual(game_text(spell(read_game(text + " lots o 2 2"), "o")), text + " table o 2 2")


class TestRefused(Case):

    def test_no_lots(self):
        for name in ("v", "t", "a", "p", "x", "y", "", "lots", "oo"):
            self.refuse(MANY + proc("lot y o x"), name)
        self.refuse("", "o")

    def test_a_table_with_this_name(self):
        self.refuse("table o 1 1 lots o 2 2")
        self.refuse("table t 1 1 table o 1 1 lots u 1 1 lots o 2 2 proc p 1 1 x local y lot y o x answer y end")
        self.check("table o 1 1 lots o 2 2 lots u 3 3", "table o 1 1 table u 3 3 lots o 2 2", "u")
        game = spell(read_game("lots o 2 2"), "o")
        with self.assertRaises(BadStep):
            spell(game, "o")

    def test_keys_that_read_the_local(self):
        for key in ("y", "+ y 1", "+ 1 y", "has t y", "cell t y", "has t cell t y", "- x * y 0",
                    "+ + + + + + + y 1 1 1 1 1 1 1"):
            self.refuse(MANY + proc(f"lot y o {key}"))
            self.refuse(MANY + proc(f"lot z o x lot y o {key} lot y o x"))

    def test_they_may_stand_anywhere(self):
        for block in ("if x lot y o y end", "if x else lot y o y end", "after lot y o y end",
                      "if x if x else after lot y o y end end end"):
            self.refuse(MANY + proc(block))
            self.refuse(MANY + proc("lot y o x") + " " + proc(block, "r") + " " + proc("let x 1", "s"))

    def test_of_other_lots_they_may_read_it(self):
        self.check(MANY + proc("lot y n y lot y o x lot z u + z 1"),
                   SPELLED + proc(f"lot y n y {look()} lot z u + z 1"))
        self.refuse(MANY + proc("lot y n y lot y o x lot z u + z 1"), "u")
        self.refuse(MANY + proc("lot y n y lot y o x lot z u + z 1"), "n")


if __name__ == "__main__":
    unittest.main()
