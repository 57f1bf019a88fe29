"""Points 3, 6, 11 and 22: texts of players."""

import unittest

from random_games import PlayerMaker
from tellsnone.errors import BadText
from tellsnone.game import read_game
from tellsnone.players import check_player
from tellsnone.playertext import player_text, read_player

YES, NO = ("say", True), ("say", False)
KEY_WORDS = ("var table lots proc local set let draw put lot ask if else end bad after answer has cell mod").split()


def chain(words, last="say yes"):
    """A text of calls and tosses one after the other."""
    forms = {"ask": "ask p 0 1 0", "toss": "toss 1"}
    return " ".join([*[forms[word] for word in words], last])


class Case(unittest.TestCase):

    def check(self, text, expected):
        """Checks what a text writes, and that it is written like this."""
        player = read_player(text=text)
        self.assertEqual(player, expected)
        self.assertEqual(repr(player), repr(expected))
        self.assertEqual(player_text(player=player), text)

    def refuse(self, text, at):
        with self.assertRaises(BadText, msg=text) as caught:
            read_player(text)
        self.assertIs(type(caught.exception), BadText)
        self.assertEqual(caught.exception.at, at, text)


class TestGoodTexts(Case):

    def test_say(self):
        self.check("say yes", YES)
        self.check("say no", NO)
        self.assertIs(read_player("say yes")[1], True)
        self.assertIs(read_player("say no")[1], False)

    def test_toss(self):
        self.check("toss 1 say yes", ("toss", (YES,)))
        self.check("toss 3 say yes say no say yes", ("toss", (YES, NO, YES)))
        self.check("toss 16 " + " ".join(["say no"] * 16), ("toss", (NO,) * 16))
        self.check("toss 2 toss 1 say no toss 2 say yes say no", ("toss", (("toss", (NO,)), ("toss", (YES, NO)))))

    def test_ask(self):
        self.check("ask p 0 0", ("ask", "p", 0, ()))
        self.check("ask p 3 1 0 say yes", ("ask", "p", 3, ((0, YES),)))
        self.check("ask p 3 2 0 say yes 1 say no", ("ask", "p", 3, ((0, YES), (1, NO))))
        self.check("ask p 3 2 63 say yes 0 ask r 1 1 7 say no",
                   ("ask", "p", 3, ((63, YES), (0, ("ask", "r", 1, ((7, NO),))))))

    def test_order_of_parts(self):
        self.check("ask p 3 4 9 say no 2 say yes 40 say yes 0 say no",
                   ("ask", "p", 3, ((9, NO), (2, YES), (40, YES), (0, NO))))

    def test_many_parts(self):
        for answers in (range(64), range(63, -1, -1), range(63), [*range(32, 64), *range(32)]):
            parts = tuple([(answer, YES if answer % 3 else NO) for answer in answers])
            text = " ".join([f"{answer} say {'yes' if answer % 3 else 'no'}" for answer in answers])
            self.check(f"ask p 0 {len(parts)} {text}", ("ask", "p", 0, parts))

    def test_numbers(self):
        for number in (0, 1, 9, 10, 99, 100, 9999, 10000, 65534, 65535):
            self.check(f"ask p {number} 0", ("ask", "p", number, ()))

    def test_names(self):
        for name in ("p", "say", "toss", "yes", "no", "abcdefghijkl", "a1", "z99", "when", "kept", "variable"):
            self.check(f"ask {name} 0 1 0 ask {name} 1 0", ("ask", name, 0, ((0, ("ask", name, 1, ())),)))

    def test_eight_deep(self):
        for words in (["ask"] * 8, ["toss"] * 8, ["ask", "toss"] * 4, ["toss", "toss", "ask"] * 2 + ["ask"] * 2):
            read_player(chain(words))
            self.assertEqual(player_text(read_player(chain(words, "say no"))), chain(words, "say no"))
        self.check(chain(["toss"] * 7, "ask p 0 0"), ("toss", (("toss", (("toss", (("toss", (("toss", (("toss", (("toss", (
            ("ask", "p", 0, ()),)),)),)),)),)),)),)))

    def test_parts_of_different_depth(self):
        deep = chain(["ask"] * 7)
        player = read_player(f"ask p 0 3 0 say no 1 {deep} 2 {chain(['toss'] * 7)}")
        self.assertEqual(player_text(player), f"ask p 0 3 0 say no 1 {deep} 2 {chain(['toss'] * 7)}")
        self.assertEqual([part[0] for part in player[3]], [0, 1, 2])
        check_player(read_game("proc p 1 1 x answer 0 end"), player)

    def test_random_players(self):
        for seed in range(100):
            player = PlayerMaker(seed, (("p", 3, 4), ("r", 2, 1), ("say", 60, 3))).player(4, 3)
            self.check(player_text(player), player)


class TestWrongWords(Case):

    def test_first_words(self):
        for text in ("yes", "no", "p", "0", "tell yes", "SAY yes", "Say", "say2 yes", "when", "if"):
            self.refuse(text, 0)

    def test_say(self):
        for word in ("maybe", "1", "True", "YES", "say", "toss", ""):
            self.refuse(f"say {word}", 1)

    def test_toss(self):
        for word in ("0", "17", "18", "100", "01", "-1", "016", "65536", "x", "1.0", "+1", "say", "016 say yes"):
            self.refuse(f"toss {word}", 1)
            self.refuse(f"toss 2 say yes toss {word}", 5)
        self.refuse("toss 2 say yes say maybe", 5)
        self.refuse("toss 2 say yes 1 say no", 4)

    def test_names(self):
        for word in (*KEY_WORDS, "P", "pP", "1", "1p", "", "abcdefghijklm", "p_", "p-q", "0", "-"):
            self.refuse(f"ask {word} 0 0", 1)
            self.refuse(f"toss 1 ask {word} 0 0", 3)

    def test_numbers(self):
        for word in ("65536", "65540", "70000", "99999", "100000", "00", "01", "065535", "-1", "+1", "x", "1.5", "1e3", ""):
            self.refuse(f"ask p {word} 0", 2)
            self.refuse(f"toss 1 ask p {word} 0", 4)

    def test_numbers_of_parts(self):
        for word in ("65", "66", "100", "65535", "00", "01", "064", "-1", "x", "say", ""):
            self.refuse(f"ask p 0 {word}", 3)
            self.refuse(f"ask p 0 {word} 0 say yes", 3)

    def test_answers(self):
        for word in ("64", "65", "100", "65535", "65536", "00", "01", "063", "-1", "x", "say", "yes", ""):
            self.refuse(f"ask p 0 1 {word} say yes", 4)
            self.refuse(f"ask p 0 2 0 say yes {word} say yes", 7)
            self.refuse(f"ask p 0 1 0 ask p 0 1 {word}", 9)

    def test_answers_that_come_twice(self):
        self.refuse("ask p 0 2 0 say yes 0 say no", 7)
        self.refuse("ask p 0 2 0 say yes 0", 7)
        self.refuse("ask p 0 3 7 say yes 0 say no 7 say yes", 10)
        self.refuse("ask p 0 3 63 say yes 63 say no 7 say yes", 7)
        self.refuse("ask p 0 64 " + " ".join([f"{answer} say yes" for answer in [*range(63), 5]]), 4 + 3 * 63)
        self.refuse("ask p 0 2 1 ask p 0 2 1 say yes 0 say yes 1 say yes", 15)
        self.refuse("ask p 0 2 1 ask p 0 2 1 say yes 1 say yes", 12)

    def test_the_same_answer_further_in(self):
        text = "ask p 0 2 1 ask p 0 2 1 say yes 0 say yes 0 ask p 0 2 1 say yes 0 say yes"
        self.assertEqual(player_text(read_player(text)), text)

    def test_nine_deep(self):
        for words in (["ask"] * 8, ["toss"] * 8, ["ask", "toss"] * 4, ["toss", "ask", "ask"] * 2 + ["toss"] * 2):
            at = len(chain(words).split()) - 2
            for last in ("ask p 0 0", "ask p 0 1 0 say yes", "toss 1 say yes", "ask", "toss"):
                self.refuse(chain(words, last), at)
        self.refuse(chain(["ask"] * 20), 8 * 5)
        self.refuse(chain(["toss"] * 20), 8 * 2)
        self.refuse("toss 2 say no " + chain(["ask"] * 8), 4 + 7 * 5)
        self.refuse("toss 2 " + chain(["ask"] * 7) + " " + chain(["ask"] * 8), 2 + 7 * 5 + 2 + 7 * 5)

    def test_words_behind_the_end(self):
        for text in ("say yes", "toss 1 say no", "ask p 0 0", "ask p 0 1 0 say yes", chain(["ask"] * 8)):
            many = len(text.split())
            for word in ("say", "end", "yes", "0", "ask", ""):
                self.refuse(f"{text} {word}", many)

    def test_cut_texts(self):
        for text in ("say yes", "toss 2 say yes ask p 1 0", "ask p 65535 3 0 say yes 63 toss 1 say no 7 ask r 0 1 0 say no",
                     chain(["ask", "toss"] * 4)):
            words = text.split()
            for many in range(len(words)):
                self.refuse(" ".join(words[:many]), many)
            read_player(text)

    def test_empty_words(self):
        self.refuse("", 0)
        self.refuse(" ", 0)
        self.refuse(" say yes", 0)
        self.refuse("say  yes", 1)
        self.refuse("say yes ", 2)
        self.refuse("ask p 0  0", 3)
        self.refuse("ask p 0 0 ", 4)
        self.refuse("ask p 0 1 0  say yes", 5)

    def test_other_characters(self):
        self.refuse("say\tyes", 0)
        self.refuse("say yes\n", 1)
        self.refuse("\nsay yes", 0)
        self.refuse("say yes\tsay", 1)
        self.refuse("ask p 0\n 0", 2)


if __name__ == "__main__":
    unittest.main()
