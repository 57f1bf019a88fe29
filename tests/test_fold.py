"""Point 16: fold."""

import unittest

from steps import StepCase, game_with, proc
from tellsnone.derivation import same
from tellsnone.game import Game, read_game

FOLD = ("fold",)
VALUES = (
    ("+ 0 0", 0), ("+ 3 4", 7), ("+ 65535 0", 65535), ("+ 65535 1", 0), ("+ 65535 65535", 65534), ("+ 1 65534", 65535),
    ("- 4 3", 1), ("- 3 4", 0), ("- 0 65535", 0), ("- 65535 0", 65535), ("- 65535 65535", 0),
    ("* 3 4", 12), ("* 0 65535", 0), ("* 256 256", 0), ("* 255 257", 65535), ("* 65535 65535", 1), ("* 65535 2", 65534),
    ("/ 7 2", 3), ("/ 6 2", 3), ("/ 7 0", 0), ("/ 0 7", 0), ("/ 65535 1", 65535), ("/ 0 0", 0), ("/ 1 2", 0),
    ("mod 7 2", 1), ("mod 6 2", 0), ("mod 7 0", 0), ("mod 0 7", 0), ("mod 65535 65535", 0), ("mod 1 2", 1),
    ("< 3 4", 1), ("< 4 3", 0), ("< 4 4", 0), ("< 0 65535", 1), ("< 65535 0", 0),
    ("= 3 4", 0), ("= 4 4", 1), ("= 0 0", 1), ("= 65535 65535", 1), ("= 0 65535", 0),
)
STAY = ("x", "a", "7", "+ x 0", "* x 0", "+ 0 x", "* 0 a", "- x x", "= x x", "< x 0", "mod x 1", "/ 0 x", "has t 1", "cell t 1",
        "+ has t 0 1", "= a a", "+ + x 1 2", "+ 1 + 2 x", "has t x", "- cell t 0 cell t 0")
DEEP = (
    ("+ + 1 2 + 3 4", "10"), ("+ x + 1 2", "+ x 3"), ("+ + 1 2 x", "+ 3 x"), ("* - 5 3 / 9 4", "4"),
    ("+ x * 2 - 9 mod 7 4", "+ x 12"), ("+ + x 1 + 1 1", "+ + x 1 2"), ("has t + 1 2", "has t 3"),
    ("cell t has n - 2 1", "cell t has n 1"), ("+ cell t + 1 1 * 2 2", "+ cell t 2 4"), ("= < 1 2 < 3 4", "1"),
    ("+ + + + + + 1 1 1 1 1 1 1", "7"), ("mod + x = 1 1 * 2 3", "mod + x 1 6"), ("* + 1 2 + a + 3 4", "* 3 + a 7"),
)


class TestExpressions(StepCase):

    def test_each_operator(self):
        for before, after in VALUES:
            self.block_leads(FOLD, f"set a {before}", f"set a {after}")
            self.leads(FOLD, game_with("", before), game_with("", str(after)))

    def test_the_data_of_a_value(self):
        found = same(read_game(game_with("let y + 1 2")), FOLD)
        self.assertEqual(found.procs[0][4], (("let", "y", ("number", 3)),))

    def test_what_stays(self):
        for part in STAY:
            self.block_leads(FOLD, f"let y {part} put t {part} {part}", f"let y {part} put t {part} {part}")
            self.leads(FOLD, game_with("let y 1", part), game_with("let y 1", part))

    def test_inner_ones_first(self):
        for before, after in DEEP:
            self.block_leads(FOLD, f"let y {before}", f"let y {after}")

    def test_in_every_place(self):
        for before, after in (("+ 1 2", "3"), ("has t + 1 2", "has t 3"), ("+ x * 2 2", "+ x 4")):
            for form in ("set a {}", "let y {}", "put t {} x", "put t x {}", "lot y o {}", "if + y {} let x 1 end",
                         "if x let y {} else let z {} end", "if x else if y set a {} end end", "after let x {} end",
                         "after if x let y 1 else let y {} end end", "put t {0} {0}", "if < {0} x let y {0} end"):
                self.block_leads(FOLD, form.format(before, before), form.format(after, after))
            self.leads(FOLD, game_with("", before), game_with("", after))

    def test_in_all_procedures(self):
        self.leads(FOLD, " ".join([proc("let y + 1 2"), proc("", "* 2 2", "r"), proc("if 1 bad end", "+ x 1", "s")]),
                   " ".join([proc("let y 3"), proc("", "4", "r"), proc("bad", "+ x 1", "s")]))


class TestIf(StepCase):

    def check(self, before, after):
        """Checks statements outermost, and within other ones."""
        self.block_leads(FOLD, before, after)
        one = f"set a 1 {before} set a 2" if before else "set a 1 set a 2"
        other = f"set a 1 {after} set a 2" if after else "set a 1 set a 2"
        self.block_leads(FOLD, one, other)
        self.block_leads(FOLD, f"if x {one} end", f"if x {other} end")
        self.block_leads(FOLD, f"if x else {one} end", f"if x else {other} end")
        self.block_leads(FOLD, f"after {one} end", f"after {other} end")
        self.block_leads(FOLD, f"if x after if y {one} end end end", f"if x after if y {other} end end end")

    def test_a_test_that_is_not_0(self):
        for test in ("1", "65535", "7", "+ 1 2", "= 3 3", "< 0 1", "* 255 257", "- 5 4"):
            self.check(f"if {test} let x 1 end", "let x 1")
            self.check(f"if {test} let x 1 let y 2 draw z 3 else let z 1 end", "let x 1 let y 2 draw z 3")
            self.check(f"if {test} else let z 1 end", "")
            self.check(f"if {test} end", "")

    def test_a_test_that_is_0(self):
        for test in ("0", "+ 65535 1", "= 3 4", "- 4 5", "* 256 256", "/ 5 0", "mod 4 2"):
            self.check(f"if {test} let x 1 end", "")
            self.check(f"if {test} let x 1 else let y 2 let z 3 end", "let y 2 let z 3")
            self.check(f"if {test} else let y 2 end", "let y 2")
            self.check(f"if {test} end", "")

    def test_other_tests(self):
        for test in ("x", "a", "+ x 0", "* x 0", "= x x", "has t 1", "cell t 0", "< x 0"):
            self.check(f"if {test} let x 1 end", f"if {test} let x 1 end")
            self.check(f"if {test} let x 1 else let y 2 end", f"if {test} let x 1 else let y 2 end")

    def test_equal_parts(self):
        for test in ("x", "+ a 1", "has t x"):
            self.check(f"if {test} let x 1 else let x 1 end", "let x 1")
            self.check(f"if {test} bad let x 1 draw y 3 else bad let x 1 draw y 3 end", "bad let x 1 draw y 3")
            self.check(f"if {test} end", "")
            self.check(f"if {test} let x 1 else let x 1 let x 1 end", f"if {test} let x 1 else let x 1 let x 1 end")
            self.check(f"if {test} let x 1 let y 1 else let y 1 let x 1 end",
                       f"if {test} let x 1 let y 1 else let y 1 let x 1 end")

    def test_parts_that_are_equal_only_afterwards(self):
        self.check("if x let y + 1 2 else let y 3 end", "let y 3")
        self.check("if x let y 3 else let y + 1 2 end", "let y 3")
        self.check("if x if 1 let y 1 end else let y 1 end", "let y 1")
        self.check("if x let y 1 if 0 bad end else let y 1 end", "let y 1")
        self.check("if x if 0 bad end end", "")
        self.check("if x if y end else if z if a end end end", "")
        self.check("if x if y let z 1 else let z 1 end else if 0 bad else let z 1 end end", "let z 1")
        self.check("if x if y let z 1 else let z 2 end else if y let z + 0 1 else let z + 1 1 end end",
                   "if y let z 1 else let z 2 end")

    def test_inner_ones(self):
        self.check("if 1 if 0 bad else if 3 let x 1 let y 2 end end end", "let x 1 let y 2")
        self.check("if x if 1 let y 1 end let z 1 if 0 let y 2 else let y 3 let y 4 end else if 1 let y 5 end end",
                   "if x let y 1 let z 1 let y 3 let y 4 else let y 5 end")
        self.check("if 1 after if 1 bad end end else bad end", "after bad end")
        self.check("if x if 0 bad end let y 1 end", "if x let y 1 end")
        self.check("if x let y 1 else if 0 bad end end", "if x let y 1 end")
        self.check("if x if 0 bad end else let y 1 end", "if x else let y 1 end")

    def test_several(self):
        self.block_leads(FOLD, "if 1 let x 1 end if 0 let y 1 else let y 2 end if x let z 1 else let z 1 end bad",
                         "let x 1 let y 2 let z 1 bad")
        self.block_leads(FOLD, "if 1 end if 0 end if x end", "")


class TestWhatStays(StepCase):

    def test_after(self):
        for block in ("after end", "after bad end", "after after end end", "if x after end end", "after let x 1 end after end"):
            self.block_leads(FOLD, block, block)
        self.block_leads(FOLD, "after if 0 bad end end", "after end")
        self.block_leads(FOLD, "if x after if 1 end end else after end end", "after end")

    def test_nothing_folds(self):
        text = game_with("set a x draw y 3 put t x y lot z o + x 1 bad if x let y 1 else let y 2 end after let x 1 end", "+ x y")
        self.leads(FOLD, text, text)
        self.leads(FOLD, "", "")
        self.leads(FOLD, "var a 9 3 table t 1 1 lots o 1 1", "var a 9 3 table t 1 1 lots o 1 1")

    def test_sizes_and_numbers_stay(self):
        text = "var a 9 3 table t 4 5 lots o 8 7 proc p 6 5 x local y draw x 1 draw y 64 answer 0 end"
        self.leads(FOLD, text, text)

    def test_again(self):
        text = game_with("if + 0 1 if x let y * 2 2 else let y 4 end end", "+ 1 + 1 x")
        found = same(read_game(text), FOLD)
        self.assertTrue(same(found, FOLD) == found)

    def test_games_that_no_text_can_write(self):
        deep, block = ("number", 1), (("bad",),)
        for _ in range(20):
            deep, block = ("+", deep, ("number", 1)), (("if", deep, block, ()),)
        game = Game((), (), (), (("p", 1, 1, ("x",), block, deep),))
        self.assertEqual(same(game, FOLD).procs, (("p", 1, 1, ("x",), (("bad",),), ("number", 21)),))


if __name__ == "__main__":
    unittest.main()
