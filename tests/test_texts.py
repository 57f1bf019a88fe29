"""Point 3: words, key words, names and numbers."""

import unittest

from helpers import block_of, block_refused_at, expression_refused_at, in_proc, refused_at, result_of
from tellsnone.game import Game, game_text, read_game

KEY_WORDS = (
    "var table lots proc local set let draw put lot ask if else end bad after answer has cell mod"
).split()
GOOD_NAMES = ("a", "z", "a0", "z9", "abcdefghijkl", "a12345678901", "x2y", "i", "vars", "lett", "last", "when", "q0")
BAD_NAMES = (
    "abcdefghijklm", "a123456789012", "A", "aB", "Ab", "abcdefghijkL", "1", "1a", "0a", "9", "a_b", "_a", "a-b",
    "a.b", "", "+", "=", "a\n", "\na", "a\t", "\t", "\n", "a\nb", "\u00e4", "a\u00e4", "a\u0661", "\u0661",
)
GOOD_NUMBERS = ("0", "1", "9", "10", "64", "100", "9999", "10000", "65534", "65535")
BAD_NUMBERS = (
    "00", "01", "000", "00000", "007", "01234", "65536", "65537", "70000", "99999", "100000", "123456", "065535",
    "655350", "9" * 400, "-1", "+1", "-0", "1.0", "1e3", "0x1", "1_0", "", "1\n", "\t1", "\u0661", "\u00b2",
)


class TestWords(unittest.TestCase):

    def test_empty_text_has_no_words(self):
        self.assertEqual(read_game(""), Game((), (), (), ()))
        self.assertEqual(game_text(Game((), (), (), ())), "")

    def test_text_of_spaces(self):
        self.assertEqual(refused_at(" "), 0)
        self.assertEqual(refused_at("  "), 0)

    def test_empty_word_at_the_beginning(self):
        self.assertEqual(refused_at(" var a 5 0"), 0)

    def test_empty_word_at_the_end(self):
        self.assertEqual(refused_at("var a 5 0 "), 4)
        self.assertEqual(refused_at("var a 5 "), 3)
        self.assertEqual(refused_at("proc p 1 1 x answer 0 end "), 8)

    def test_empty_word_at_each_place(self):
        words = in_proc("if x bad else let y + has t 1 cell s 2 end after set a 1 end").split(" ")
        for at in range(len(words) + 1):
            self.assertEqual(refused_at(" ".join(words[:at] + [""] + words[at:])), at)

    def test_newlines_and_tabs_belong_to_words(self):
        words = in_proc("draw x 3 put t + y 1 2 lot y o x").split(" ")
        for at, word in enumerate(words):
            for other in (word + "\n", "\n" + word, word + "\t", "\t" + word, "\n", "\t"):
                self.assertEqual(refused_at(" ".join(words[:at] + [other] + words[at + 1:])), at)
        self.assertEqual(refused_at("\n"), 0)
        self.assertEqual(refused_at("var a 5 0\n"), 3)
        self.assertEqual(refused_at("var\ta 5 0"), 0)
        self.assertEqual(refused_at("var a 5 0\nvar b 5 0"), 3)

    def test_words_of_capitals(self):
        self.assertEqual(refused_at("VAR a 5 0"), 0)
        self.assertEqual(block_refused_at("Let x 1"), 0)
        self.assertEqual(expression_refused_at("MOD x 1"), 0)


class TestNames(unittest.TestCase):

    def lines(self, name):
        """Texts with a new name, each with the index of the name."""
        return (
            ("var {} 5 0".format(name), 1),
            ("table {} 5 3".format(name), 1),
            ("lots {} 5 3".format(name), 1),
            ("proc {} 1 1 xx answer 0 end".format(name), 1),
            ("proc p 1 1 {} answer 0 end".format(name), 4),
            ("proc p 1 1 xx local {} answer 0 end".format(name), 6),
        )

    def test_names(self):
        for name in GOOD_NAMES:
            for text, _ in self.lines(name):
                self.assertEqual(game_text(read_game(text)), text)

    def test_words_that_are_no_names(self):
        for name in BAD_NAMES:
            for text, at in self.lines(name):
                self.assertEqual(refused_at(text), at, text)

    def test_key_words_are_no_names(self):
        self.assertEqual(len(KEY_WORDS), 20)
        for name in KEY_WORDS:
            for text, at in self.lines(name):
                self.assertEqual(refused_at(text), at, text)

    def test_words_that_are_no_names_where_a_known_name_should_stand(self):
        for name in (*KEY_WORDS, *BAD_NAMES):
            for text in ("set {} 1", "let {} 1", "draw {} 1", "put {} 1 1", "lot {} o 1", "ask {} p 1"):
                self.assertEqual(block_refused_at(text.format(name), ("p",)), 1, (name, text))
            for text in ("lot x {} 1", "ask x {} 1"):
                self.assertEqual(block_refused_at(text.format(name), ("p",)), 2, (name, text))
            for text in ("has {} 1", "cell {} 1"):
                self.assertEqual(expression_refused_at(text.format(name)), 1, (name, text))


class TestNumbers(unittest.TestCase):

    def test_numbers(self):
        for number in GOOD_NUMBERS:
            self.assertEqual(result_of(number), ("number", int(number)))

    def test_words_that_are_no_numbers(self):
        for number in BAD_NUMBERS:
            self.assertEqual(expression_refused_at(number), 0, number)
            self.assertEqual(expression_refused_at("+ 1 " + number), 2, number)
            self.assertEqual(refused_at("var a " + number), 2, number)
            self.assertEqual(refused_at("var a 65535 " + number), 3, number)
            self.assertEqual(refused_at("table t " + number), 2, number)
            self.assertEqual(refused_at("lots t 3 " + number), 3, number)
            self.assertEqual(refused_at("proc p " + number), 2, number)
            self.assertEqual(refused_at("proc p 3 " + number), 3, number)
            self.assertEqual(block_refused_at("draw x " + number), 2, number)

    def test_the_data_of_a_number_is_an_integer(self):
        game = read_game("var a 65535 10 table t 1 2 lots o 3 4 proc p 5 6 x draw x 7 answer 8 end")
        numbers = [*game.variables[0][1:], *game.tables[0][1:], *game.lots[0][1:], *game.procs[0][1:3]]
        numbers.extend([game.procs[0][4][0][2], game.procs[0][5][1]])
        self.assertEqual(numbers, [65535, 10, 1, 2, 3, 4, 5, 6, 7, 8])
        self.assertEqual([type(number) for number in numbers], [int] * 10)

    def test_numbers_are_no_statements(self):
        self.assertEqual(block_refused_at("0"), 0)
        self.assertEqual(block_of("draw x 64"), (("draw", "x", 64),))


if __name__ == "__main__":
    unittest.main()
