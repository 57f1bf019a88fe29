"""Point 16: swap."""

import unittest

from steps import ROWS, StepCase, game_with, proc
from tellsnone.derivation import same
from tellsnone.errors import BadStep
from tellsnone.game import game_text, read_game

# Statements, with what they read and what they write, worked out by hand: L locals, V variables, T tables, O lots, B bad.
TOUCHED = {
    "set a 1": ("", "Va"), "set a a": ("Va", "Va"), "set n + x a": ("Lx Va", "Vn"), "set a has t y": ("Ly Tt", "Va"),
    "set a cell n 0": ("Tn", "Va"), "set n 2": ("", "Vn"),
    "let x 1": ("", "Lx"), "let x x": ("Lx", "Lx"), "let y - 1 * x z": ("Lx Lz", "Ly"), "let z n": ("Vn", "Lz"),
    "let z cell x has t 1": ("Tx Tt", "Lz"),
    "draw x 3": ("", "Lx"), "draw y 1": ("", "Ly"),
    "put t 1 2": ("", "Tt"), "put n x 1": ("Lx", "Tn"), "put x 1 y": ("Ly", "Tx"), "put t has t 0 0": ("Tt", "Tt"),
    "put t cell n a n": ("Tn Va Vn", "Tt"),
    "lot x o 1": ("Oo", "Lx Oo"), "lot y n z": ("On Lz", "Ly On"), "lot z x has x n": ("Ox Tx Vn", "Lz Ox"),
    "lot y o y": ("Oo Ly", "Ly Oo"),
    "bad": ("", "B"), "after end": ("B", ""), "after let x 1 end": ("B", "Lx"), "after bad end": ("B", "B"),
    "after after set a y end end": ("B Ly", "Va"), "after if z end end": ("B Lz", ""),
    "if 1 end": ("", ""), "if x end": ("Lx", ""), "if has x a end": ("Tx Va", ""), "if 1 bad end": ("", "B"),
    "if 1 else bad end": ("", "B"), "if 1 after end end": ("B", ""), "if y set a 1 else put t 1 1 end": ("Ly", "Va Tt"),
    "if 1 if 1 lot z n x end end": ("On Lx", "Lz On"), "if 1 if 1 else draw y 2 end end": ("", "Ly"),
    "if 1 let z n else if y let z 1 end end": ("Vn Ly", "Lz"), "if 1 else if 1 else let x cell t 1 end end": ("Tt", "Lx"),
    "if 1 put x 1 1 after put n 0 0 end end": ("B", "Tx Tn"),
}


def apart(one, other):
    """Whether neither of two statements writes what the other one reads or writes."""
    (reads, writes), (others, more) = [[set(part.split()) for part in TOUCHED[each]] for each in (one, other)]
    return not writes & (others | more) and not more & (reads | writes)


class TestPairs(StepCase):

    def test_each_pair(self):
        held = 0
        for one in TOUCHED:
            for other in TOUCHED:
                with self.subTest((one, other)):
                    if apart(one, other):
                        held += 1
                        self.block_leads(("swap", "p", 0), f"{one} {other}", f"{other} {one}")
                    else:
                        self.block_refuses(("swap", "p", 0), f"{one} {other}")
        self.assertGreater(held, 500)

    def test_some_by_name(self):
        for one, other in (("set a 1", "let x 1"), ("draw x 2", "draw y 2"), ("lot x o 1", "lot y n 1"), ("bad", "let x 1"),
                           ("let x a", "let y a"), ("after end", "after end"), ("put t 1 1", "put n 1 1"),
                           ("after let x 1 end", "after let y 1 end"), ("let x has t 1", "let y cell t 1")):
            self.block_leads(("swap", "p", 0), f"{one} {other}", f"{other} {one}")
            self.block_leads(("swap", "p", 0), f"{other} {one}", f"{one} {other}")
        for one, other in (("set a 1", "set a 2"), ("set a 1", "let x a"), ("set a 1", "set n a"), ("draw x 2", "draw x 2"),
                           ("draw x 2", "let y x"), ("lot x o 1", "lot y o 1"), ("lot x o 1", "lot y o 2"),
                           ("lot x o y", "let y 1"), ("bad", "bad"), ("bad", "after end"), ("put t 1 1", "let x has t 2"),
                           ("put t 1 1", "let x cell t 2"), ("put t 1 1", "put t 2 2"), ("let x 1", "if x end"),
                           ("let x 1", "put t x 1"), ("let x 1", "put t 1 x"), ("let x 1", "lot y o x"),
                           ("let x 1", "if 1 set a x end"), ("let x 1", "if 1 else set a x end"),
                           ("let x 1", "after set a x end"), ("after bad end", "after end"), ("let x 1", "let x 1"),
                           ("set a 1", "if 1 if 1 set a 1 end end"), ("bad", "if 1 after end end"),
                           ("bad", "if 1 else if 1 bad end end")):
            self.block_refuses(("swap", "p", 0), f"{one} {other}")
            self.block_refuses(("swap", "p", 0), f"{other} {one}")

    def test_equal_statements(self):
        for statement in ("if 1 end", "if x end", "after end", "if 1 after end end"):
            self.block_leads(("swap", "p", 0), f"{statement} {statement}", f"{statement} {statement}")

    def test_names_of_things_of_different_kinds(self):
        for one, other in (("set n 1", "put n 1 1"), ("set n 1", "lot y n 1"), ("put n 1 1", "lot y n 1"),
                           ("let x 1", "put x 1 1"), ("let x 1", "lot y x 1"), ("put x 1 1", "lot y x 1"),
                           ("draw x 2", "let y has x 1"), ("set n 1", "let y cell n 1"), ("lot y n 1", "let x n"),
                           ("lot y x 1", "let z x"), ("put x 1 1", "let z x"), ("put n 1 1", "let z n")):
            self.block_leads(("swap", "p", 0), f"{one} {other}", f"{other} {one}")
            self.block_leads(("swap", "p", 0), f"{other} {one}", f"{one} {other}")


class TestPlaces(StepCase):

    def test_numbers_of_statements(self):
        block = ["let x 1", "set a 2", "put t 0 0", "draw y 2"]
        for k in range(3):
            new = list(block)
            new[k], new[k + 1] = new[k + 1], new[k]
            self.block_leads(("swap", "p", k), " ".join(block), " ".join(new))

    def test_statements_that_there_are_not(self):
        for k in (3, 4, 100, 65535, -1, -2, -4):
            self.block_refuses(("swap", "p", k), "let x 1 set a 2 put t 0 0 draw y 2")
        for k in (0, 1, -1):
            self.block_refuses(("swap", "p", k), "")
            self.block_refuses(("swap", "p", k), "let x 1")
        self.block_refuses(("swap", "p", 0), "if x let x 1 set a 2 end")
        self.block_refuses(("swap", "p", 1), "let x 1 if y let z 1 set a 2 end")

    def test_inner_statements_do_not_count(self):
        self.block_leads(("swap", "p", 1), "if 1 let x 1 let y 1 end set a 1 put t 0 0",
                         "if 1 let x 1 let y 1 end put t 0 0 set a 1")

    def test_the_result_does_not_matter(self):
        self.block_leads(("swap", "p", 0), "let x 1 let y 2", "let y 2 let x 1", "+ x y")

    def test_procedures(self):
        text = ROWS + " ".join([proc("let x 1 let y 2"), proc("let x 3 let y 4", name="r"), proc("let z 1", name="s")])
        self.leads(("swap", "r", 0), text, ROWS + " ".join(
            [proc("let x 1 let y 2"), proc("let y 4 let x 3", name="r"), proc("let z 1", name="s")]))
        self.leads(("swap", "p", 0), text, ROWS + " ".join(
            [proc("let y 2 let x 1"), proc("let x 3 let y 4", name="r"), proc("let z 1", name="s")]))
        for name in ("v", "", "x", "a", "t", "o", "proc"):
            self.refuses(("swap", name, 0), text)
        self.refuses(("swap", "s", 0), text)
        self.refuses(("swap", "p", 0), "")

    def test_twice(self):
        game = read_game(game_with("let x 1 let y 2"))
        self.assertTrue(same(same(game, ("swap", "p", 0)), ("swap", "p", 0)) == game)

    def test_the_rule_is_told(self):
        with self.assertRaises(BadStep) as caught:
            same(game=read_game(game_with("bad bad")), step=("swap", "p", 0))
        self.assertEqual(caught.exception.rule, "swap")
        self.assertEqual(game_text(same(game=read_game(game_with("bad let x 1")), step=("swap", "p", 0))),
                         game_with("let x 1 bad"))


if __name__ == "__main__":
    unittest.main()
