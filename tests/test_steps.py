"""Point 16: drop, toss, shift, sink, erase, and spell as a step."""

import unittest

from steps import ROWS, StepCase, game_with, proc
from tellsnone.derivation import same
from tellsnone.game import Game, game_text, read_game

KEY_WORDS = ("var table lots proc local set let draw put lot ask if else end bad after answer has cell mod").split()
NO_PLACES = (3, 4, 100, 65535, -1, -3)


class TestDrop(StepCase):

    def test_a_let_and_a_draw(self):
        for statement in ("let y 1", "let y y", "let y + x a", "draw y 3", "draw y 1", "let y has t y"):
            self.block_leads(("drop", "p", 0), statement, "")
            self.block_leads(("drop", "p", 1), f"set a y {statement} let x z", "set a y let x z")
            self.block_leads(("drop", "p", 2), f"set a y let x z {statement}", "set a y let x z")

    def test_locals_that_are_read_later(self):
        for statement in ("let y 1", "draw y 3"):
            for later in ("set a y", "let x y", "let x + 1 y", "put t y 1", "put t 1 y", "lot x o y", "if y end",
                          "if has t y end", "if 1 let x y end", "if 1 else let x y end", "if 1 if 1 else set a y end end",
                          "after let x y end", "after if 1 put t 0 + y 1 end end", "let y y", "let y + y 1", "lot y o y",
                          "let x cell t y", "let x has t cell n y"):
                self.block_refuses(("drop", "p", 0), f"{statement} {later}")
                self.block_refuses(("drop", "p", 0), f"{statement} let z 1 {later}")
                self.block_refuses(("drop", "p", 1), f"let x 1 {statement} let y 2 {later} let z 1")
            for result in ("y", "+ x y", "has t y", "cell t + y 1"):
                self.refuses(("drop", "p", 0), game_with(statement, result))
                self.refuses(("drop", "p", 0), game_with(f"{statement} let y 1", result))

    def test_locals_that_are_read_only_in_front(self):
        for statement in ("let y y", "draw y 3"):
            for earlier in ("set a y", "let x y", "if y let x y end", "after set a y end", "lot x o y"):
                self.block_leads(("drop", "p", 1), f"{earlier} {statement} let x z", f"{earlier} let x z", "+ x z")

    def test_locals_that_are_only_written_later(self):
        for later in ("let y 1", "draw y 2", "lot y o x", "if x let y 1 else draw y 1 end", "after let y 1 end"):
            self.block_leads(("drop", "p", 0), f"let y 1 {later}", later, "x")

    def test_things_of_other_kinds_with_the_name(self):
        for later in ("put x 1 1", "let y has x 1", "lot y x 1", "let z cell x z"):
            self.block_leads(("drop", "p", 0), f"let x 1 {later}", later, "cell x 0")

    def test_other_statements(self):
        for statement in ("set a 1", "put t 1 1", "lot y o 1", "if x end", "bad", "after end", "if x let y 1 end",
                          "after draw y 1 end"):
            self.block_refuses(("drop", "p", 0), statement)
            self.block_refuses(("drop", "p", 1), f"let x 1 {statement} let x 1")

    def test_statements_that_there_are_not(self):
        for k in NO_PLACES:
            self.block_refuses(("drop", "p", k), "let x 1 let y 1 let z 1")
        self.block_refuses(("drop", "p", 0), "")
        self.block_refuses(("drop", "p", -1), "let x 1")
        self.block_refuses(("drop", "p", 1), "if x let y 1 let z 1 end")

    def test_procedures(self):
        text = ROWS + " ".join([proc("let y 1"), proc("let y 2", "x", "r"), proc("let y 3", "y", "s")])
        self.leads(("drop", "r", 0), text, ROWS + " ".join([proc("let y 1"), proc("", "x", "r"), proc("let y 3", "y", "s")]))
        self.refuses(("drop", "s", 0), text)
        for name in ("v", "", "y", "a"):
            self.refuses(("drop", name, 0), text)

    def test_the_locals_stay(self):
        found = same(read_game(game_with("draw y 3")), ("drop", "p", 0))
        self.assertEqual(found.procs[0][3], ("x", "y", "z"))


class TestToss(StepCase):

    def check(self, k, after, before="let x 1 let y 2 let z 3"):
        self.leads(("toss", "p", k, "v", 7), ROWS + proc(before), ROWS + proc(after, inner="x local y local z local v"))

    def test_places(self):
        self.check(0, "draw v 7 let x 1 let y 2 let z 3")
        self.check(1, "let x 1 draw v 7 let y 2 let z 3")
        self.check(2, "let x 1 let y 2 draw v 7 let z 3")
        self.check(3, "let x 1 let y 2 let z 3 draw v 7")
        self.check(0, "draw v 7", "")
        self.check(1, "if x let y 1 end draw v 7", "if x let y 1 end")
        for k in (4, 5, 100, 65535, -1, -2, -3):
            self.refuses(("toss", "p", k, "v", 7), game_with("let x 1 let y 2 let z 3"))
        self.refuses(("toss", "p", 1, "v", 7), game_with(""))
        self.refuses(("toss", "p", -1, "v", 7), game_with(""))

    def test_names(self):
        for name in ("v", "v1", "abcdefghijkl", "p", "t", "o", "q", "q0", "fold", "r"):
            self.leads(("toss", "p", 0, name, 2), game_with("let x 1"),
                       ROWS + proc(f"draw {name} 2 let x 1", inner=f"x local y local z local {name}"))
        for name in (*KEY_WORDS, "abcdefghijklm", "V", "vV", "", "1", "1v", "v_", "v w", " v", "v ", "a-b", "mod"):
            self.refuses(("toss", "p", 0, name, 2), game_with("let x 1"))

    def test_names_that_are_taken(self):
        text = "var a 9 3 var b 2 0 " + proc() + " proc r 1 1 w local u answer 0 end"
        for name in ("x", "y", "z", "a", "b"):
            self.refuses(("toss", "p", 0, name, 2), text)
        for name in ("w", "u", "a", "b"):
            self.refuses(("toss", "r", 0, name, 2), text)
        for name in ("w", "u"):
            self.leads(("toss", "p", 0, name, 2), text, "var a 9 3 var b 2 0 "
                       + proc(f"draw {name} 2", inner=f"x local y local z local {name}") + " proc r 1 1 w local u answer 0 end")
        self.leads(("toss", "r", 0, "x", 2), text, "var a 9 3 var b 2 0 " + proc()
                   + " proc r 1 1 w local u local x draw x 2 answer 0 end")

    def test_numbers(self):
        for many in (1, 2, 63, 64):
            self.leads(("toss", "p", 0, "v", many), game_with(),
                       ROWS + proc(f"draw v {many}", inner="x local y local z local v"))
        for many in (0, 65, 66, 65535, -1):
            self.refuses(("toss", "p", 0, "v", many), game_with())

    def test_numbers_of_locals(self):
        inner = ["x0"]
        for many in range(1, 6):
            text = " local ".join(inner)
            self.leads(("toss", "p", 0, "v", 2), proc(inner=text), proc("draw v 2", inner=text + " local v"))
            inner.append(f"x{many}")
        self.refuses(("toss", "p", 0, "v", 2), proc(inner=" local ".join(inner)))
        self.refuses(("toss", "p", 0, "v", 2), Game((), (), (), (("p", 1, 1, tuple(inner) + ("w",), (), ("local", "w")),)))

    def test_procedures(self):
        for name in ("v", "", "x", "a"):
            self.refuses(("toss", name, 0, "v", 2), game_with())
        text = " ".join([proc(), proc(name="r"), proc(name="s")])
        self.leads(("toss", "r", 0, "v", 2), text,
                   " ".join([proc(), proc("draw v 2", name="r", inner="x local y local z local v"), proc(name="s")]))


class TestShift(StepCase):

    def test_the_powers_of_two(self):
        for many in range(1, 65):
            block = f"draw y {many} let y mod + y x {many}"
            if many in (1, 2, 4, 8, 16, 32, 64):
                self.block_leads(("shift", "p", 0), block, f"draw y {many}")
                self.block_leads(("shift", "p", 2), f"let x 1 bad {block} let z y bad",
                                 f"let x 1 bad draw y {many} let z y bad", "y")
            else:
                self.block_refuses(("shift", "p", 0), block)

    def test_other_numbers(self):
        for many, other in ((4, 8), (8, 4), (4, 2), (4, 3), (64, 32), (1, 2), (2, 0), (2, 65535)):
            self.block_refuses(("shift", "p", 0), f"draw y {many} let y mod + y x {other}")

    def test_what_is_added(self):
        for part in ("0", "65535", "x", "z", "a", "has t x", "cell t + z a", "* 3 - x z", "= x z", "+ + + + + x 1 1 1 1 1"):
            self.block_leads(("shift", "p", 0), f"draw y 4 let y mod + y {part} 4", "draw y 4")
        for part in ("y", "+ x y", "+ y x", "has t y", "cell t cell n y", "* 0 y", "+ + + + + y 1 1 1 1 1", "- y y"):
            self.block_refuses(("shift", "p", 0), f"draw y 4 let y mod + y {part} 4")

    def test_other_expressions(self):
        for part in ("mod + x y 4", "mod - y x 4", "mod * y x 4", "+ y x", "mod y 4", "/ + y x 4", "mod + y x z", "y", "4",
                     "mod + 1 y 4", "mod + + y 1 x 4", "+ mod + y x 4 0", "mod mod + y x 4 4", "mod 4 + y x", "has t + y x",
                     "mod + y x + 2 2", "mod = y x 4"):
            self.block_refuses(("shift", "p", 0), f"draw y 4 let y {part}")

    def test_other_locals_and_statements(self):
        for second in ("let x mod + y z 4", "let x mod + x z 4", "let y mod + x z 4", "set a mod + y x 4", "put t mod + y x 4 0",
                       "lot y o mod + y x 4", "draw y 4", "bad", "if mod + y x 4 end", "after let y mod + y x 4 end"):
            self.block_refuses(("shift", "p", 0), f"draw y 4 {second}")
        for first in ("let y 4", "lot y o 4", "set a 4", "draw x 4", "bad", "put t y 4", "if y draw y 4 end", "after draw y 4 end"):
            self.block_refuses(("shift", "p", 0), f"{first} let y mod + y x 4")
        self.block_refuses(("shift", "p", 0), "let y mod + y x 4 draw y 4")
        self.block_refuses(("shift", "p", 0), "draw y 4 let x 1 let y mod + y x 4")

    def test_a_variable_and_a_table_are_no_locals(self):
        text = "var y 9 0 table z 2 2 proc p 1 1 z draw z 4 let z mod + z {} 4 answer 0 end"
        for part in ("y", "cell z y", "has z 1"):
            self.leads(("shift", "p", 0), text.format(part), "var y 9 0 table z 2 2 proc p 1 1 z draw z 4 answer 0 end")
        self.refuses(("shift", "p", 0), text.format("cell z z"))
        self.refuses(("shift", "p", 0), "var y 9 0 proc p 1 1 z draw z 4 let z mod + y z 4 answer 0 end")

    def test_statements_that_there_are_not(self):
        pair = "draw y 4 let y mod + y x 4"
        for k in (1, 2, 3, 100, -1, -2):
            self.block_refuses(("shift", "p", k), pair)
        self.block_refuses(("shift", "p", 0), "")
        self.block_refuses(("shift", "p", 0), "draw y 4")
        self.block_refuses(("shift", "p", -1), "let y mod + y x 4 draw y 4")
        self.block_refuses(("shift", "p", 0), f"if 1 {pair} end")

    def test_several(self):
        block = "draw y 4 let y mod + y x 4 let y mod + y z 4 draw x 4 let x mod + x y 4"
        self.block_leads(("shift", "p", 0), block, "draw y 4 let y mod + y z 4 draw x 4 let x mod + x y 4")
        self.block_leads(("shift", "p", 3), block, "draw y 4 let y mod + y x 4 let y mod + y z 4 draw x 4")
        self.block_refuses(("shift", "p", 1), block)

    def test_procedures(self):
        pair = "draw y 4 let y mod + y x 4"
        text = " ".join([proc(pair), proc(pair, name="r")])
        self.leads(("shift", "r", 0), text, " ".join([proc(pair), proc("draw y 4", name="r")]))
        for name in ("v", "", "y"):
            self.refuses(("shift", name, 0), text)


class TestSink(StepCase):

    def test_parts(self):
        for test in ("x", "0", "a", "+ x z", "has t x", "= a cell t z"):
            self.block_leads(("sink", "p", 0), f"draw y 3 if {test} set a y else let x 1 end",
                             f"if {test} draw y 3 set a y else draw y 3 let x 1 end")
            self.block_leads(("sink", "p", 0), f"draw y 3 if {test} let y y let x 1 end",
                             f"if {test} draw y 3 let y y let x 1 else draw y 3 end")
            self.block_leads(("sink", "p", 0), f"draw y 3 if {test} else let x y end",
                             f"if {test} draw y 3 else draw y 3 let x y end")
            self.block_leads(("sink", "p", 0), f"draw y 3 if {test} end", f"if {test} draw y 3 else draw y 3 end")

    def test_places(self):
        self.block_leads(("sink", "p", 2), "let x 1 draw z 2 draw y 64 if x bad end let y 2",
                         "let x 1 draw z 2 if x draw y 64 bad else draw y 64 end let y 2", "y")
        self.block_leads(("sink", "p", 0), "draw y 1 if 1 if y bad end end", "if 1 draw y 1 if y bad end else draw y 1 end")

    def test_tests_that_read_the_local(self):
        for test in ("y", "+ x y", "+ y 0", "has t y", "cell n cell t y", "* 0 y", "= y y", "+ + + + + + + y 1 1 1 1 1 1 1"):
            self.block_refuses(("sink", "p", 0), f"draw y 3 if {test} set a y else let x 1 end")

    def test_things_of_other_kinds_with_the_name(self):
        text = "var n 9 0 table z 2 2 proc p 1 1 z draw z 4 if {} bad end answer 0 end"
        self.leads(("sink", "p", 0), text.format("cell z n"),
                   "var n 9 0 table z 2 2 proc p 1 1 z if cell z n draw z 4 bad else draw z 4 end answer 0 end")
        self.refuses(("sink", "p", 0), text.format("cell z z"))

    def test_other_statements(self):
        for second in ("let x 1", "after end", "after if x end end", "bad", "draw x 2", "set a 1", "put t 1 1", "lot x o 1"):
            self.block_refuses(("sink", "p", 0), f"draw y 3 {second}")
            self.block_refuses(("sink", "p", 0), f"draw y 3 {second} if x end")
        for first in ("let y 3", "lot y o 3", "set a 3", "bad", "put t 1 1", "if y end", "after end", "if y draw y 3 end"):
            self.block_refuses(("sink", "p", 0), f"{first} if x let x 1 end")
        self.block_refuses(("sink", "p", 0), "if x end draw y 3")

    def test_statements_that_there_are_not(self):
        for k in (1, 2, 3, -1, -2, 65535):
            self.block_refuses(("sink", "p", k), "draw y 3 if x end")
        self.block_refuses(("sink", "p", 0), "draw y 3")
        self.block_refuses(("sink", "p", 0), "")
        self.block_refuses(("sink", "p", -1), "if x end draw y 3")
        self.block_refuses(("sink", "p", 0), "if x draw y 3 if x end end")

    def test_procedures(self):
        text = " ".join([proc("draw y 3 if x end"), proc("draw y 3 if x end", name="r")])
        self.leads(("sink", "r", 0), text,
                   " ".join([proc("draw y 3 if x end"), proc("if x draw y 3 else draw y 3 end", name="r")]))
        for name in ("v", "", "y"):
            self.refuses(("sink", name, 0), text)


class TestErase(StepCase):

    def test_a_variable(self):
        self.leads(("erase", "variable", "b"), "var a 9 3 var b 2 0 var c 3 1 " + proc("set b 1 set a x set b + x c set c 1"),
                   "var a 9 3 var c 3 1 " + proc("set a x set c 1"))
        self.leads(("erase", "variable", "a"), "var a 9 3 table t 1 1 lots o 1 1", "table t 1 1 lots o 1 1")
        self.leads(("erase", "variable", "c"), "var a 9 3 var b 2 0 var c 3 1", "var a 9 3 var b 2 0")

    def test_a_table(self):
        self.leads(("erase", "table", "u"), "table t 4 5 table u 1 2 table v 2 3 " + proc("put t 1 1 put u x cell t 1 put v 1 1"),
                   "table t 4 5 table v 2 3 " + proc("put t 1 1 put v 1 1"))
        self.leads(("erase", "table", "t"), "var a 9 3 table t 1 1 lots o 1 1", "var a 9 3 lots o 1 1")

    def test_in_all_procedures(self):
        text = "var a 9 3 var b 2 0 " + " ".join([proc("set b 1"), proc("let x 1", name="r"), proc("set b 1 set b 2 bad", name="s")])
        self.leads(("erase", "variable", "b"), text,
                   "var a 9 3 " + " ".join([proc(), proc("let x 1", name="r"), proc("bad", name="s")]))

    def test_inner_statements(self):
        for write, kind, name in (("set a x", "variable", "a"), ("put t x 1", "table", "t")):
            for before, after in (
                ("if x {} end", "if x end"), ("if x {} {} let y 1 end", "if x let y 1 end"), ("if x else {} end", "if x end"),
                ("if x let y 1 {} else {} let y 2 {} end", "if x let y 1 else let y 2 end"), ("after {} end", "after end"),
                ("after {} bad {} end", "after bad end"), ("if x if y {} else after {} end end end", "if x if y else after end end end"),
                ("after after {} end {} end", "after after end end"), ("if x if y {} end end {}", "if x if y end end"),
            ):
                rows = "var a 9 3 table t 4 5 "
                left = "table t 4 5 " if kind == "variable" else "var a 9 3 "
                self.leads(("erase", kind, name), rows + proc(before.replace("{}", write)), left + proc(after))

    def test_variables_that_are_read(self):
        for statement in ("let y a", "set a a", "set a + a 1", "set n a", "put t a 1", "put t 1 + 1 a", "lot y o a", "if a end",
                          "if has t a end", "let y cell t has n a", "if x let y a end", "if x else let y a end",
                          "after let y a end", "if x if x after set a a end end end"):
            self.block_refuses(("erase", "variable", "a"), statement)
            self.refuses(("erase", "variable", "a"),
                         ROWS + " ".join([proc("set a 1"), proc("let y 1", name="r"), proc(statement, name="s")]))
        for result in ("a", "+ x a", "has t a"):
            self.refuses(("erase", "variable", "a"), game_with("set a 1", result))
            self.refuses(("erase", "variable", "a"), ROWS + proc("set a 1") + " " + proc("", result, "r"))

    def test_tables_that_are_read(self):
        for statement in ("let y has t 1", "let y cell t 1", "put t has t 0 1", "put t 1 cell t 1", "put n cell t 1 1",
                          "set a has n has t 1", "lot y o cell t 1", "if has t 1 end", "if x let y cell t 1 end",
                          "if x else let y has t 1 end", "after let y + 1 has t 1 end"):
            self.block_refuses(("erase", "table", "t"), statement)
            self.refuses(("erase", "table", "t"), ROWS + proc("put t 1 1") + " " + proc(statement, name="r"))
        for result in ("has t 1", "cell t 1", "+ x cell n has t 1"):
            self.refuses(("erase", "table", "t"), game_with("", result))

    def test_things_of_other_kinds_with_the_name(self):
        rows = "var n 9 0 table n 2 2 lots n 3 3 "
        self.leads(("erase", "variable", "n"), rows + proc("set n 1 put n 1 1 lot y n 1 let y cell n 1", "has n 1"),
                   "table n 2 2 lots n 3 3 " + proc("put n 1 1 lot y n 1 let y cell n 1", "has n 1"))
        self.leads(("erase", "table", "n"), rows + proc("set n n put n n 1 lot y n 1", "n"),
                   "var n 9 0 lots n 3 3 " + proc("set n n lot y n 1", "n"))
        self.leads(("erase", "table", "x"), "table x 2 2 " + proc("put x x 1 let x x", "x"), proc("let x x", "x"))

    def test_what_there_is_not(self):
        text = game_with("set a 1 put t 1 1")
        for kind, name in (("variable", "t"), ("variable", "v"), ("table", "a"), ("table", "v"), ("variable", "o"), ("table", "o"),
                           ("variable", "y"), ("table", "y"), ("variable", "p"), ("table", "p"), ("variable", ""), ("table", "")):
            self.refuses(("erase", kind, name), text)
        self.refuses(("erase", "variable", "a"), "")

    def test_other_kinds(self):
        text = "var k 9 0 table k 2 2 lots k 3 3 " + proc()
        for kind in ("lots", "var", "local", "proc", "", "tables", "variables", "Table"):
            self.refuses(("erase", kind, "k"), text)
            self.refuses(("erase", kind, "p"), text)
            self.refuses(("erase", kind, "x"), text)


class TestSpell(StepCase):

    def test_it_holds(self):
        self.leads(("spell", "o"), "lots n 1 1 lots o 8 7 " + proc("lot y o x"),
                   "table o 8 7 lots n 1 1 " + proc("if has o x let y cell o x else draw y 7 put o x y end"))

    def test_it_does_not_hold(self):
        for name in ("v", "t", "a", "p", "n", "x"):
            self.refuses(("spell", name), game_with("lot y o x"))
        self.refuses(("spell", "o"), game_with("lot y o y"))
        self.refuses(("spell", "o"), game_with("lot y o x after lot y o + 1 y end"))


class TestOtherRules(StepCase):

    def test_rules_that_are_none(self):
        for step in (("until", read_game("")), ("back", read_game(""), ("fold",)), ("reckon", read_game(""), 0), ("inside",),
                     ("folds",), ("",), ("Fold",), ("spel", "o"), ("rename", "x", "y"), ("begin",), ("nothing", "p", 0)):
            self.refuses(step, "")
            self.refuses(step, game_with("let x 1 lot y o x"))

    def test_arguments_by_name(self):
        found = same(game=read_game(game_with("let x 1")), step=("drop", "p", 0))
        self.assertEqual(game_text(found), game_with())


if __name__ == "__main__":
    unittest.main()
