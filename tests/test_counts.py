"""Point 19: the count of a game."""

import copy
import unittest
from fractions import Fraction

from helpers import fraction
from tellsnone.bounds import Bound
from tellsnone.errors import BadStep
from tellsnone.game import Game, read_game
from tellsnone.until import counted

MANY = "var a 9 3 table t 4 5 table s 3 2 lots o 4 4 "
HIT = "draw y 4 if has t y bad end"


def one(statements):
    """The text of a game with one procedure."""
    return MANY + f"proc p 6 5 x local y local z {statements} answer y end"


def many(*blocks):
    """The text of a game with a procedure for each of some blocks of statements."""
    return MANY + " ".join([f"proc p{at} 6 5 x local y local z {block} answer y end" for at, block in enumerate(blocks)])


class Case(unittest.TestCase):

    def check(self, text, first, more=0):
        """Checks what a game counts, and that it stays as it was."""
        game = read_game(text)
        before = copy.deepcopy(vars(game))
        bound = counted(game=game)
        self.assertIs(type(bound), Bound)
        self.assertEqual((fraction(bound.flat), fraction(bound.first), fraction(bound.more), bound.limit),
                         (0, first, more, None), text)
        self.assertEqual(vars(game), before)

    def refuse(self, text):
        """Checks that a game has no count."""
        with self.assertRaises(BadStep, msg=text) as caught:
            counted(read_game(text))
        self.assertIs(type(caught.exception), BadStep)
        self.assertEqual(caught.exception.rule, "until")


class TestWithoutBad(Case):

    def test_games_without_bad(self):
        for text in ("", MANY.strip(), one("let y 1"), one("draw y 4 if has t y put t y 1 end"),
                     one("draw y 4 if = y 1 else let x 1 end"), one("put t 1 1 put s 1 1"), many("let y 1", "set a 2")):
            self.check(text, 0)

    def test_bad_within_after(self):
        self.check(one("after bad end"), 0)
        self.check(one("if x after bad end else after let y 1 bad end end"), 0)
        self.check(one("after if x bad else bad end after bad end end"), 0)
        self.check(one("after draw y 4 if has t y bad end end put t 0 0"), 0)
        self.check(one(f"put t 0 0 {HIT} after bad end"), Fraction(1, 4), Fraction(1, 4))
        self.check(one("draw y 4 if = y 1 after bad end end"), 0)
        self.check(one("draw y 4 if = y 1 after bad end bad end"), Fraction(1, 4))
        self.check(one("draw y 4 if = y 1 bad else after bad end end"), Fraction(1, 4))
        self.check(many("after bad end", "draw y 7 if = y 1 bad end"), Fraction(1, 7))


class TestEqual(Case):

    def test_numbers_drawn(self):
        for drawn in (1, 2, 3, 4, 5, 63, 64):
            self.check(one(f"draw y {drawn} if = y 0 bad end"), Fraction(1, drawn))

    def test_expressions(self):
        for part in ("0", "65535", "x", "z", "a", "has t 1", "cell t x", "+ x z", "mod cell s has t a 2",
                     "- * x z / a 3", "= x z", "< a 1", "+ + + + + + x 1 1 1 1 1 1"):
            self.check(one(f"draw y 5 if = y {part} bad end"), Fraction(1, 5))

    def test_expressions_that_read_what_is_drawn(self):
        for part in ("y", "+ y 1", "+ 1 y", "has t y", "cell t y", "has s cell t + 1 y", "- y y", "= y y",
                     "+ + + + + + x 1 1 1 1 1 y", "* 0 y"):
            self.refuse(one(f"draw y 5 if = y {part} bad end"))

    def test_the_other_way_round(self):
        for part in ("0", "x", "a", "cell t x"):
            self.refuse(one(f"draw y 5 if = {part} y bad end"))

    def test_other_operators(self):
        for sign in ("+", "-", "*", "/", "mod", "<"):
            for part in ("0", "x", "a"):
                self.refuse(one(f"draw y 5 if {sign} y {part} bad end"))
                self.refuse(one(f"draw y 5 if {sign} {part} y bad end"))
            self.refuse(one(f"draw y 5 if {sign} = y x 0 bad end"))
            self.refuse(one(f"draw y 5 if = + y 0 {sign} x 1 bad end"))

    def test_a_variable_and_a_table_are_no_locals(self):
        text = "var y 9 0 table z 4 4 lots x 2 2 proc p 1 1 x local z draw z 4 if {} bad end answer 0 end"
        self.check(text.format("= z y"), Fraction(1, 4))
        self.check(text.format("= z cell z y"), Fraction(1, 4))
        self.check(text.format("has z z"), 0)
        self.refuse(text.format("= y z"))
        self.refuse(text.format("= z cell z z"))
        self.refuse(text.format("has z y"))
        self.refuse(text.format("has z x"))

    def test_tables_do_not_count(self):
        self.check(one("put t 0 0 draw y 4 if = y cell t x put t 1 1 bad end put t 2 2"), Fraction(1, 4))

    def test_puts_do_not_matter_elsewhere(self):
        self.check(many("draw y 4 if = y x bad end", "put t 0 0 put s 0 0"), Fraction(1, 4))


class TestHas(Case):

    def test_without_puts(self):
        self.check(one(HIT), 0, 0)
        self.check(one("draw y 3 if has s y bad end put t 1 1"), 0, 0)

    def test_puts_in_front(self):
        self.check(one(f"put t x 0 {HIT}"), Fraction(1, 4), Fraction(1, 4))
        self.check(one(f"put t x 0 put t 1 1 let x 1 put t 0 0 {HIT}"), Fraction(3, 4), Fraction(3, 4))
        self.check(one("put t 0 0 put s 1 1 draw z 3 if has s z bad end put t 1 1"), Fraction(1, 3), Fraction(1, 3))
        self.check(one(f"put t 0 0 put t 0 0 put t 0 0 put t 0 0 put t 0 0 {HIT}"), Fraction(5, 4), Fraction(5, 4))

    def test_puts_at_its_place(self):
        self.check(one("draw y 4 if has t y put t x 0 bad end"), 0, Fraction(1, 4))
        self.check(one("draw y 4 if has t y bad else put t x 0 put t 1 1 end"), 0, Fraction(2, 4))
        self.check(one("draw y 4 if has t y bad if x put t x 0 end end"), 0, Fraction(1, 4))

    def test_puts_behind(self):
        self.check(one(f"{HIT} put t x 0"), 0, Fraction(1, 4))
        self.check(one(f"put t 1 1 {HIT} put t x 0 put t 2 2"), Fraction(1, 4), Fraction(3, 4))

    def test_inner_puts(self):
        self.check(one(f"if x put t 0 0 else put t 1 1 if y put t 2 2 end end {HIT}"), Fraction(3, 4), Fraction(3, 4))
        self.check(one(f"{HIT} if x if y put t 0 0 end else put t 1 1 put s 0 0 end"), 0, Fraction(2, 4))
        self.check(one(f"if x put s 0 0 end {HIT}"), 0, 0)

    def test_puts_within_after_do_not_count(self):
        self.check(one(f"after put t 0 0 end if x after put t 1 1 end else put t 3 3 end {HIT} after put t 2 2 end"),
                   Fraction(1, 4), Fraction(1, 4))
        self.check(many(HIT, "after put t 0 0 put t 1 1 end put t 2 2"), 0, Fraction(1, 4))

    def test_puts_in_other_procedures(self):
        self.check(many(HIT, "put t 0 0"), 0, Fraction(1, 4))
        self.check(many("put t 0 0", HIT), 0, Fraction(1, 4))
        self.check(many("put t 0 0 put t 1 1", f"put t 1 1 {HIT}", "put t 0 0 if x put t 2 2 else put t 3 3 end"),
                   Fraction(1, 4), Fraction(3, 4))
        self.check(many(HIT, "put s 0 0 put s 1 1"), 0, 0)

    def test_the_number_of_keys(self):
        for keys in (1, 2, 3, 63, 64):
            text = f"table t {keys} 5 proc p 1 1 x put t 0 0 draw x {keys} if has t x bad end answer 0 end"
            self.check(text, Fraction(1, keys), Fraction(1, keys))
        for drawn in (1, 3, 5, 8, 64):
            self.refuse(one(f"draw y {drawn} if has t y bad end"))
        self.refuse(one("draw y 5 if has t y bad end"))
        self.refuse(one("draw y 4 if has s y bad end"))
        self.check(one("put s 0 0 draw y 3 if has s y bad end"), Fraction(1, 3), Fraction(1, 3))

    def test_other_looks(self):
        for test in ("cell t y", "has t + y 0", "has t 0", "has t a", "has t x", "= has t y 1", "+ has t y 0", "y", "1"):
            self.refuse(one(f"draw y 4 if {test} bad end"))


class TestPlaces(Case):

    def test_within_the_first_part(self):
        for block in ("bad", "let y 1 bad", "bad let y 1", "bad bad", "put s 0 0 bad let x 1 bad draw y 2 bad",
                      "if x let x 1 end bad"):
            self.check(one(f"draw y 4 if = y x {block} end"), Fraction(1, 4))
            self.check(one(f"draw y 4 if = y x {block} else let x 1 end"), Fraction(1, 4))
            self.check(one(f"put t 0 0 draw y 4 if has t y {block} end"), Fraction(1, 4), Fraction(1, 4))

    def test_deeper_within_the_first_part(self):
        """Such an `if` counts once, however many bads stand in its first part and however deep."""
        for block in ("if x bad end", "if x else bad end", "if x bad else bad end", "if 1 bad end", "bad if x bad end",
                      "if x else bad end bad", "if x let x 1 if z bad bad end else if z else let x 2 bad end end",
                      "if x if x if x if x if x bad end end end end end", "draw y 4 if = y x bad end",
                      "draw y 5 if = y y bad end", "draw z 3 if has s z bad end if has s x bad end",
                      "if x after bad end bad end", "if y bad end if y bad end if y bad end"):
            for second in ("", "else let x 1 ", "else if x let x 1 end after if x bad end end "):
                self.check(one(f"draw y 4 if = y x {block} {second}end"), Fraction(1, 4))
                self.check(one(f"put t 0 0 draw y 4 if has t y {block} {second}end"), Fraction(1, 4), Fraction(1, 4))

    def test_deeper_bads_of_several_ifs(self):
        self.check(one("draw y 2 if = y x if z bad end end draw y 3 if = y x if z else bad end end"), Fraction(5, 6))
        self.check(one("put t 0 0 draw y 4 if has t y if x put t 1 1 bad end end draw z 3 if = z y if x bad end end"),
                   Fraction(1, 4) + Fraction(1, 3), Fraction(2, 4))
        self.check(many("draw y 4 if = y x if z bad end end", "draw y 3 if = y x bad if z bad end end"), Fraction(1, 3))
        self.refuse(many("draw y 4 if = y x if z bad end end", "if z bad end"))
        self.refuse(one("draw y 2 if = y x if z bad end end if = y z bad end"))

    def test_deeper_bads_behind_other_tests(self):
        for drawn, test in (("draw y 4", "has s y"), ("draw y 4", "= y y"), ("draw y 4", "= x y"), ("draw z 4", "= y x"),
                            ("draw y 4 let z 1", "= y x"), ("let y 1", "= y x"), ("draw y 5", "has t y")):
            self.refuse(one(f"{drawn} if {test} if x bad end end"))
            self.refuse(one(f"{drawn} if {test} if x else bad end end"))

    def test_other_places(self):
        for test in ("has t y", "= y x"):
            self.refuse(one(f"draw y 4 if {test} else bad end"))
            self.refuse(one(f"draw y 4 if {test} bad else bad end"))
            self.refuse(one(f"draw y 4 if {test} bad else if x bad end end"))
            self.refuse(one(f"draw y 4 if {test} bad else if x else bad end end"))
            self.refuse(one(f"draw y 4 if {test} else if x if x bad end end end"))
            self.refuse(one(f"draw y 4 if {test} if x bad end else draw y 4 if {test} bad end end"))
            self.refuse(one(f"if x draw y 4 if {test} bad end end"))
            self.refuse(one(f"if x else draw y 4 if {test} bad end end"))
            self.refuse(one(f"if x draw y 4 if {test} if x bad end end end"))
            self.refuse(one(f"draw y 4 if {test} end bad"))
            self.refuse(one(f"draw y 4 if {test} if x bad end end bad"))
            self.refuse(one(f"draw y 4 if {test} bad end bad"))
            self.refuse(one(f"bad draw y 4 if {test} bad end"))
        for block in ("bad", "draw y 4 bad", "if x bad end", "if x else bad end", "let y 1 bad", "put t 0 0 bad"):
            self.refuse(one(block))

    def test_not_directly_behind_its_draw(self):
        for test in ("has t y", "= y x"):
            for between in ("let x 1", "let y 1", "draw z 4", "set a 1", "put t 0 0", "lot z o 0", "if x end", "after end",
                            "after let x 1 end", "draw y 4 draw z 4", "bad"):
                self.refuse(one(f"draw y 4 {between} if {test} bad end"))
            self.refuse(one(f"if {test} bad end"))
            self.refuse(one(f"if {test} bad end draw y 4"))
            self.refuse(one(f"if {test} bad end let x 1 draw y 4"))
            self.refuse(one(f"if x draw y 4 end if {test} bad end"))
            self.refuse(one(f"if x else draw y 4 end if {test} bad end"))
            self.refuse(one(f"after draw y 4 end if {test} bad end"))
            self.refuse(one(f"lot y o x if {test} bad end"))
            self.refuse(one(f"let y 4 if {test} bad end"))
            self.refuse(one(f"draw y 4 if {test} end if {test} bad end"))
            self.refuse(one(f"draw y 4 if {test} bad end if {test} bad end"))

    def test_another_local_is_drawn(self):
        for test in ("has t y", "= y x"):
            self.refuse(one(f"draw z 4 if {test} bad end"))
            self.refuse(one(f"draw y 4 draw z 4 if {test} bad end"))

    def test_a_draw_again(self):
        self.check(one("draw y 5 draw y 4 if = y x bad end"), Fraction(1, 4))
        self.check(one("put t 0 0 draw y 5 draw y 4 if has t y bad end"), Fraction(1, 4), Fraction(1, 4))

    def test_an_after_within_the_if(self):
        self.check(one("draw y 4 if = y x after bad end bad after let x 1 end end"), Fraction(1, 4))

    def test_ifs_without_bad_do_not_count(self):
        self.check(one("put t 0 0 draw y 4 if has t y end draw y 7 if = y 1 bad end"), Fraction(1, 7))
        self.check(one("draw y 4 if = y x let x 1 end draw y 4 if = y x after bad end end"), 0)

    def test_one_procedure_that_is_refused(self):
        self.refuse(many("draw y 4 if = y x bad end", "bad"))
        self.refuse(many("bad", "draw y 4 if = y x bad end"))
        self.refuse(many("let y 1", "let y 1", "draw y 4 if = x y bad end", "let y 1"))


class TestSums(Case):

    def test_several_in_one_procedure(self):
        self.check(one("draw y 2 if = y x bad end draw z 3 if = z y bad end"), Fraction(5, 6))
        self.check(one("put t 0 0 draw y 4 if has t y bad end put t 1 1 draw z 4 if has t z bad end"),
                   Fraction(3, 4), Fraction(4, 4))
        self.check(one("put t 0 0 draw y 4 if has t y bad put t 1 1 else put s 0 0 end draw z 3 if has s z bad end "
                       "draw y 7 if = y 1 bad end put s 1 1"),
                   Fraction(1, 4) + Fraction(1, 3) + Fraction(1, 7), Fraction(2, 4) + Fraction(2, 3))
        self.check(one(" ".join(["draw y 2 if = y x bad end"] * 5)), Fraction(5, 2))

    def test_the_greatest_procedure(self):
        self.check(many("draw y 4 if = y x bad end", "draw y 3 if = y x bad end", "draw y 5 if = y x bad end"),
                   Fraction(1, 3))
        self.check(many("draw y 3 if = y x bad end", "draw y 4 if = y x bad end"), Fraction(1, 3))
        self.check(many("draw y 4 if = y x bad end", "draw y 3 if = y x bad end"), Fraction(1, 3))
        self.check(many("draw y 4 if = y x bad end draw y 4 if = y x bad end", "draw y 3 if = y x bad end"),
                   Fraction(1, 2))

    def test_first_and_more_from_different_procedures(self):
        self.check(many("draw y 2 if = y x bad end", f"{HIT} put t 0 0 put t 1 1"), Fraction(1, 2), Fraction(1, 2))
        self.check(many(f"{HIT} {HIT} {HIT}", "draw y 64 if = y x bad end put t 0 0",
                        f"put t 0 0 {HIT}"), Fraction(1, 4), Fraction(3, 4))

    def test_games_that_no_text_can_write(self):
        table = ("t", 100, 100)
        block = (("put", "t", ("number", 0), ("number", 0)), ("draw", "q0", 100),
                 ("if", ("has", "t", ("local", "q0")), (("bad",),), ()))
        game = Game((), (table,), (), (("p", 1, 1, ("x", "q0"), block * 9, ("local", "x")),))
        bound = counted(game)
        self.assertEqual((fraction(bound.first), fraction(bound.more)), (Fraction(45, 100), Fraction(81, 100)))


if __name__ == "__main__":
    unittest.main()
