"""Point 6: where the text of a game is refused."""

import unittest

from helpers import refused_at
from tellsnone.game import game_text, read_game

KEY_WORDS = (
    "var table lots proc local set let draw put lot ask if else end bad after answer has cell mod"
).split()
OPERATORS = ["+", "-", "*", "/", "mod", "<", "="]
NUMBERS = ["0", "1", "2", "3", "4", "5", "8", "9", "10", "64", "65", "65535"]
NAMES = ["a", "b", "t", "o", "p", "r", "x", "y", "z", "fresh", "abcdefghijkl"]
NOWHERE = ["", "A", "65536", "00", "01", "123456", "-1", "abcdefghijklm", "1a", "a_b", "x\n", "\t", "1\n", "(", ">"]
ALL = [*KEY_WORDS, "+", "-", "*", "/", "<", "=", *NUMBERS, *NAMES, *NOWHERE]


def numbers(least, greatest):
    return [word for word in NUMBERS if least <= int(word) <= greatest]


def new(taken):
    return [name for name in NAMES if name not in taken.split()]


TOP = ["var", "table", "lots", "proc"]
STATEMENTS = ["set", "let", "draw", "put", "lot", "if", "bad", "after"]
LEAVES = ["a", "b", "x", "y", *NUMBERS]
EXPRESSION = [*LEAVES, *OPERATORS, "has", "cell"]
SMALL = numbers(1, 64)
LOCALS = ["x", "y"]

# Each word of a game, with all words of ALL that could stand there instead.
PLACES = [
    ("var", TOP), ("a", NAMES), ("9", numbers(1, 65535)), ("3", numbers(0, 8)),
    ("var", TOP), ("b", new("a")), ("65535", numbers(1, 65535)), ("0", NUMBERS[:-1]),
    ("table", TOP), ("t", NAMES), ("4", SMALL), ("5", SMALL),
    ("lots", TOP[1:]), ("o", NAMES), ("8", SMALL), ("64", SMALL),
    ("proc", TOP[2:]), ("p", NAMES), ("64", SMALL), ("1", SMALL), ("x", new("a b")),
    ("local", ["local", "answer", *STATEMENTS]), ("y", new("a b x")),
    ("set", ["local", "answer", *STATEMENTS]), ("a", ["a", "b"]), ("mod", EXPRESSION), ("1", EXPRESSION),
    ("x", EXPRESSION),
    ("let", ["answer", *STATEMENTS]), ("y", LOCALS), ("cell", EXPRESSION), ("t", ["t"]), ("b", EXPRESSION),
    ("draw", ["answer", *STATEMENTS]), ("x", LOCALS), ("64", SMALL),
    ("put", ["answer", *STATEMENTS]), ("t", ["t"]), ("0", EXPRESSION), ("has", EXPRESSION), ("t", ["t"]),
    ("a", EXPRESSION),
    ("lot", ["answer", *STATEMENTS]), ("x", LOCALS), ("o", ["o"]), ("65535", EXPRESSION),
    ("if", ["answer", *STATEMENTS]), ("y", EXPRESSION),
    ("bad", ["else", "end", *STATEMENTS]),
    ("if", ["else", "end", *STATEMENTS]), ("1", EXPRESSION),
    ("else", ["else", "end", *STATEMENTS]),
    ("after", STATEMENTS),
    ("if", ["end", *STATEMENTS]), ("0", EXPRESSION),
    ("after", ["else", "end", *STATEMENTS]),
    ("if", ["end", *STATEMENTS]), ("0", EXPRESSION),
    ("bad", ["else", "end", "set", "let", "draw", "put", "lot", "bad"]),
    ("end", ["else", "end", "set", "let", "draw", "put", "lot", "bad"]),
    ("end", ["end", *STATEMENTS]),
    ("end", ["else", "end", *STATEMENTS]),
    ("end", ["end", *STATEMENTS]),
    ("end", ["end", *STATEMENTS]),
    ("else", ["else", "end", *STATEMENTS]),
    ("bad", STATEMENTS),
    ("end", ["end", *STATEMENTS]),
    ("answer", ["answer", *STATEMENTS]),
    ("+", EXPRESSION), ("-", EXPRESSION), ("*", EXPRESSION), ("/", EXPRESSION), ("<", EXPRESSION), ("=", EXPRESSION),
    ("has", EXPRESSION), ("t", ["t"]), ("1", LEAVES),
    ("x", EXPRESSION), ("2", EXPRESSION), ("a", EXPRESSION), ("y", EXPRESSION), ("b", EXPRESSION), ("10", EXPRESSION),
    ("end", ["end"]),
    ("proc", ["proc"]), ("r", new("p")), ("1", SMALL), ("1", SMALL), ("z", new("a b")),
    ("answer", ["local", "answer", *STATEMENTS]), ("z", ["a", "b", "z", *NUMBERS, *OPERATORS, "has", "cell"]),
    ("end", ["end"]),
]
WORDS = [word for word, _ in PLACES]
# The numbers of words after which the text could end.
ENDS = (0, 4, 8, 12, 16, WORDS.index("r") - 1, len(WORDS))


class TestEachPlace(unittest.TestCase):

    def test_the_game_itself(self):
        text = " ".join(WORDS)
        self.assertEqual(game_text(read_game(text)), text)

    def test_cut_behind_each_word(self):
        for size in range(len(WORDS) + 1):
            text = " ".join(WORDS[:size])
            self.assertEqual(refused_at(text), None if size in ENDS else size, text)

    def test_each_word_at_each_place(self):
        for at, (_, fitting) in enumerate(PLACES):
            for word in ALL:
                text = " ".join([*WORDS[:at], word])
                if text == "":
                    self.assertIsNone(refused_at(text))
                elif word not in fitting:
                    self.assertEqual(refused_at(text), at, text)
                    self.assertEqual(refused_at(" ".join([text, *WORDS[at + 1:]])), at, text)
                    self.assertEqual(refused_at(" ".join([text, *WORDS[at:]])), at, text)
                else:
                    self.assertIn(refused_at(text), (None, at + 1), text)

    def test_words_behind_the_game(self):
        for word in ALL:
            text = " ".join([*WORDS, word])
            self.assertEqual(refused_at(text), len(WORDS) + (1 if word == "proc" else 0))

    def test_the_first_one_of_several(self):
        for first in range(len(WORDS)):
            for second in range(first + 1, len(WORDS), 7):
                words = list(WORDS)
                words[first] = words[second] = "A"
                self.assertEqual(refused_at(" ".join(words)), first)

    def test_words_that_are_left_out(self):
        for at in range(len(WORDS) - 1):
            words = [*WORDS[:at], *WORDS[at + 1:]]
            if WORDS[at + 1] not in PLACES[at][1]:
                self.assertEqual(refused_at(" ".join(words)), at)


class TestNothingToName(unittest.TestCase):
    """Words behind which something must be named that the game does not have."""

    LINES = {"var": "var a 9 0", "table": "table t 3 3", "lots": "lots o 3 3"}
    STATEMENTS = {"set": "var", "put": "table", "lot": "lots"}
    LOOKS = ("has", "cell")

    def games(self):
        """Each choice of lines: which kinds there are, and the text up to the first statement."""
        for chosen in range(8):
            kinds = [kind for at, kind in enumerate(self.LINES) if chosen >> at & 1]
            yield kinds, " ".join([*[self.LINES[kind] for kind in kinds], "proc p 2 2 x "])

    def test_statements(self):
        for kinds, text in self.games():
            size = len(text.split())
            for word, needed in self.STATEMENTS.items():
                at = size + (1 if needed in kinds else 0)
                self.assertEqual(refused_at(text + word), at)
                self.assertEqual(refused_at(text + word + " nope 1 1"), at)
                for before, more in (("bad ", 1), ("if 1 ", 2), ("if 1 else ", 3), ("after ", 1)):
                    self.assertEqual(refused_at(text + before + word), at + more)

    def test_lot_needs_lots_ahead_of_its_local(self):
        self.assertEqual(refused_at("proc p 2 2 x lot x o 0"), 5)
        self.assertEqual(refused_at("lots o 2 2 proc p 2 2 x lot x"), 11)
        self.assertEqual(refused_at("lots o 2 2 proc p 2 2 x lot x x"), 11)

    def test_looks(self):
        for kinds, text in self.games():
            size = len(text.split())
            for word in self.LOOKS:
                for before in ("answer ", "let x ", "if ", "answer + 1 ", "let x * x - 1 "):
                    at = size + len(before.split()) + (1 if "table" in kinds else 0)
                    self.assertEqual(refused_at(text + before + word), at, text + before + word)
                    self.assertEqual(refused_at(text + before + word + " nope"), at)

    def test_ask(self):
        for asked, more, at in (((), 0, 5), (("r",), 1, 7), (["r", "s"], 1, None)):
            self.assertEqual(refused_at("proc p 2 2 x ask", asked), 5 + more)
            self.assertEqual(refused_at("proc p 2 2 x bad ask", asked), 6 + more)
            self.assertEqual(refused_at("proc p 2 2 x if x else ask", asked), 8 + more)
            self.assertEqual(refused_at("proc p 2 2 x ask x s x answer x end", asked), at)

    def test_ask_with_words_that_are_no_names(self):
        for word in ("", "A", "if", "1", "abcdefghijklm"):
            self.assertEqual(refused_at("proc p 2 2 x ask x " + word + " x answer x end", (word,)), 5)

    def test_nothing_else_is_needed(self):
        for _, text in self.games():
            for statement in ("let x 1", "draw x 2", "bad", "if x bad else bad end", "after bad end"):
                self.assertIsNone(refused_at(text + statement + " answer x end"))


class TestRefusesWithNothingElse(unittest.TestCase):

    def test_odd_texts(self):
        texts = (" ", "\n", "end end end", "var", "proc", "+ + + +", "if " * 500, "var a 5 0 " * 500, "a" * 10000,
                 "9" * 10000, "proc p 1 1 x " + "if 1 " * 2000, "proc p 1 1 x answer " + "+ " * 2000,
                 "proc p 1 1 x " + "let x 1 " * 3000)
        for text in texts:
            self.assertIsNotNone(refused_at(text))

    def test_long_texts_are_read(self):
        text = " ".join(["proc p 1 1 x", *["let x + x 1"] * 5000, "answer x end"])
        self.assertEqual(game_text(read_game(text)), text)


if __name__ == "__main__":
    unittest.main()
