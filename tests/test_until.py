"""Point 18: games that are alike until bad comes."""

import copy
import unittest

from tellsnone.game import Game, read_game
from tellsnone.until import alike

PLAIN = (
    "var a 9 3 var b 2 0 table t 4 5 table s 3 2 lots o 8 7 lots u 2 2 "
    "proc p 6 5 x local y set a 1 after let y 2 end if x after set b 1 end else after bad after let x 1 end end "
    "put t x 3 end lot y o x answer y end "
    "proc r 2 3 x after end answer x end"
)
# What makes two games differ, one at a time: a part of the text, and what stands there instead.
DIFFERENCES = (
    ("var a 9", "var c 9", "set a", "set c"), ("var a 9 3", "var a 8 3"), ("var a 9 3", "var a 9 4"),
    ("var a 9 3 var b 2 0", "var b 2 0 var a 9 3"), ("table t 4 5", "table v 4 5", "put t", "put v"),
    ("table t 4 5", "table t 5 5"), ("table t 4 5", "table t 4 6"), ("table s 3 2 ", ""),
    ("table t 4 5 table s 3 2", "table s 3 2 table t 4 5"), ("lots o 8 7", "lots v 8 7", "lot y o", "lot y v"),
    ("lots o 8 7", "lots o 7 7"), ("lots o 8 7", "lots o 8 8"), ("lots u 2 2 ", ""),
    ("lots o 8 7 lots u 2 2", "lots u 2 2 lots o 8 7"), ("proc p", "proc v"), ("proc p 6", "proc p 7"),
    ("proc p 6 5", "proc p 6 4"), ("x local y", "x local y local z"), ("let y 2", "let z 2", "x local y", "x local z",
                                                                      "lot y", "lot z", "answer y", "answer z"),
    ("set a 1", "set a 2"), ("set a 1", "set b 1"), ("set a 1 ", ""), ("set a 1", "let x 1"), ("if x", "if y"),
    ("put t x 3", "put t x 4"), ("put t x 3", "put t y 3"), ("put t x 3 ", ""), ("lot y o x", "lot y o 0"),
    ("lot y o x", "lot x o x"), ("lot y o x", "lot y u x"), ("answer y", "answer x"),
    (" proc r 2 3 x after end answer x end", ""), ("proc r 2 3 x", "proc r 2 2 x"), ("set a 1", "set a 1 bad"),
    ("set a 1", "set a 1 draw y 2"), ("set a 1 after let y 2 end", "after let y 2 end set a 1"),
)
# What stands only within `after`, and what may stand there instead.
LIKENESSES = (
    ("let y 2", "let y 3"), ("let y 2", "let x 2"), ("let y 2", "set a y"), ("let y 2 ", ""), ("let y 2", "bad"),
    ("let y 2", "let y 2 let y 2"), ("let y 2", "if x bad else draw x 3 end"), ("let y 2", "after end"),
    ("let y 2", "after let y 2 after bad end end"), ("set b 1", "set b 0"), ("set b 1 ", ""), ("set b 1", "put t 0 0"),
    ("bad after let x 1 end ", ""), ("after let x 1 end ", ""), ("let x 1", "let x 2"), ("let x 1 ", ""),
    ("bad after", "after"), ("after end answer x", "after lot x o 0 end answer x"),
    ("after end answer x", "after bad after bad end end answer x"),
)
AFTERS = ("after let y 2 end ", "after set b 1 end ", "after bad after let x 1 end end ", "after end ")


def changed(*parts):
    """The text with some parts changed, each one where it stands first."""
    text = PLAIN
    for old, new in zip(parts[::2], parts[1::2]):
        assert old in text, old
        text = text.replace(old, new, 1)
    return read_game(text)


class TestAlike(unittest.TestCase):

    def check(self, expected, game, other):
        """Checks what is told of two games, both ways round, and that they stay as they were."""
        before = copy.deepcopy((vars(game), vars(other)))
        self.assertIs(alike(game, other), expected)
        self.assertIs(alike(other, game), expected)
        self.assertEqual((vars(game), vars(other)), before)

    def test_equal_games(self):
        self.check(True, read_game(PLAIN), read_game(PLAIN))
        self.check(True, read_game(""), Game((), (), (), ()))
        game = read_game(PLAIN)
        self.assertIs(alike(game=game, other=game), True)

    def test_one_difference(self):
        for parts in DIFFERENCES:
            with self.subTest(parts):
                self.check(False, read_game(PLAIN), changed(*parts))

    def test_differences_within_after(self):
        for parts in LIKENESSES:
            with self.subTest(parts):
                self.check(True, read_game(PLAIN), changed(*parts))
                self.assertFalse(read_game(PLAIN) == changed(*parts))

    def test_several_differences_within_after(self):
        other = changed("let y 2", "bad", "set b 1", "set b x", "bad after", "draw x 7 after", "let x 1 ", "")
        self.check(True, read_game(PLAIN), other)
        self.check(True, changed("let y 2 ", ""), changed("set b 1 ", ""))
        self.check(True, changed("let y 2 ", ""), other)
        self.check(False, read_game(PLAIN), changed("let y 2", "bad", "set a 1", "set a 0"))

    def test_an_after_that_is_missing(self):
        for part in AFTERS:
            with self.subTest(part):
                self.check(False, read_game(PLAIN), changed(part, ""))
                self.check(False, read_game(PLAIN), changed(part, part + part))

    def test_an_after_that_is_missing_within_another_one(self):
        self.check(True, read_game(PLAIN), changed("after let x 1 end ", "let x 1 "))

    def test_what_an_after_holds_is_not_the_same_in_front_of_it(self):
        self.check(False, read_game(PLAIN), changed("after let y 2 end", "let y 2 after end"))
        self.check(False, read_game(PLAIN), changed("after let y 2 end", "after end let y 2"))

    def test_empty_parts(self):
        empty, full = read_game("proc p 1 1 x if x after end end answer 0 end"), \
            read_game("proc p 1 1 x if x after bad end end answer 0 end")
        none, other = read_game("proc p 1 1 x if x end answer 0 end"), \
            read_game("proc p 1 1 x if x else after end end answer 0 end")
        self.check(True, empty, full)
        self.check(False, empty, none)
        self.check(False, full, none)
        self.check(False, empty, other)
        self.check(False, none, other)

    def test_games_that_no_text_can_write(self):
        deep, other = (("let", "x", ("number", 1)),), (("bad",),)
        for _ in range(20):
            deep, other = (("if", ("local", "x"), (), deep),), (("if", ("local", "x"), (), other),)
        blocks = [(("after", deep),), (("after", other),), deep, other]
        games = [Game((), (), (), (("p", 1, 1, ("x",), block, ("local", "x")),)) for block in blocks]
        self.check(True, games[0], games[1])
        self.check(False, games[2], games[3])


if __name__ == "__main__":
    unittest.main()
