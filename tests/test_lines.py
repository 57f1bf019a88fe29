"""Point 4: the lines of a game and of its procedures."""

import unittest

from helpers import refused_at
from tellsnone.game import game_text, read_game

NAMES = ("a", "b", "c", "d", "e", "f", "g", "h")
LINES = (
    ("var", "var {} 5 4"),
    ("table", "table {} 3 2"),
    ("lots", "lots {} 2 3"),
    ("proc", "proc {} 2 2 x answer 0 end"),
)


def many(line, count):
    return " ".join([line.format(name) for name in NAMES[:count]])


def kinds(game):
    return {"var": game.variables, "table": game.tables, "lots": game.lots, "proc": game.procs}


class TestKindsOfLines(unittest.TestCase):

    def test_none_to_six_of_each_kind(self):
        for kind, line in LINES:
            for count in range(7):
                text = many(line, count)
                game = read_game(text)
                self.assertEqual(game_text(game), text)
                for other, rows in kinds(game).items():
                    names = NAMES[:count] if other == kind else ()
                    self.assertEqual(tuple([row[0] for row in rows]), names)

    def test_seven_of_each_kind(self):
        for _, line in LINES:
            at = len(many(line, 6).split())
            self.assertEqual(refused_at(many(line, 7)), at)
            self.assertEqual(refused_at(many(line, 8)), at)
            self.assertEqual(refused_at(many(line, 6) + " " + line.split()[0]), at)

    def test_six_of_all_kinds(self):
        text = " ".join([many(line, 6) for _, line in LINES]).replace(" x ", " y ")
        game = read_game(text)
        self.assertEqual([len(rows) for rows in kinds(game).values()], [6, 6, 6, 6])
        self.assertEqual(game_text(game), text)

    def test_any_kind_may_be_left_out(self):
        for chosen in range(16):
            lines = [line.format("n") for at, (_, line) in enumerate(LINES) if chosen >> at & 1]
            text = " ".join(lines)
            self.assertEqual(game_text(read_game(text)), text)

    def test_a_kind_that_comes_too_late(self):
        for late in range(4):
            for early in range(late):
                text = LINES[late][1].format("n") + " " + LINES[early][1].format("m")
                self.assertEqual(refused_at(text), len(LINES[late][1].split()))
                self.assertEqual(refused_at(" ".join(text.split()[:len(LINES[late][1].split()) + 1])),
                                 len(LINES[late][1].split()))

    def test_other_words_instead_of_a_line(self):
        for word in ("local", "let", "set", "answer", "end", "if", "bad", "ask", "has", "n", "0", "+"):
            self.assertEqual(refused_at(word), 0)
            for _, line in LINES:
                self.assertEqual(refused_at(line.format("n") + " " + word), len(line.split()))


class TestLimits(unittest.TestCase):

    def numbers(self, text, at, good, bad):
        """Tries numbers in a text, at the index `at`."""
        for number in good:
            self.assertIsNone(refused_at(text.format(number)), text.format(number))
            self.assertEqual(game_text(read_game(text.format(number))), text.format(number))
        for number in bad:
            self.assertEqual(refused_at(text.format(number)), at, text.format(number))

    def test_size_and_first_of_variables(self):
        self.numbers("var a {} 0", 2, (1, 2, 64, 65, 65534, 65535), (0, 65536, -1))
        for size in (1, 2, 10, 65535):
            self.numbers("var a " + str(size) + " {}", 3, (0, size - 1), (size, size + 1, -1))

    def test_keys_and_values(self):
        for kind in ("table", "lots"):
            self.numbers(kind + " t {} 1", 2, (1, 2, 63, 64), (0, 65, 65535, -1))
            self.numbers(kind + " t 1 {}", 3, (1, 2, 63, 64), (0, 65, 65535, -1))

    def test_size_and_answers_of_procedures(self):
        self.numbers("proc p {} 1 x answer 0 end", 2, (1, 2, 63, 64), (0, 65, 65535, -1))
        self.numbers("proc p 1 {} x answer 0 end", 3, (1, 2, 63, 64), (0, 65, 65535, -1))

    def test_later_lines_have_the_same_limits(self):
        self.assertEqual(refused_at("var a 5 4 var b 4 4"), 7)
        self.assertEqual(refused_at("table t 64 64 table s 65 1"), 6)
        self.assertEqual(refused_at("proc p 1 1 x answer 0 end proc r 1 65 x answer 0 end"), 11)


class TestLocals(unittest.TestCase):

    def text(self, count):
        inner = " ".join(["local " + name for name in NAMES[:count]])
        return " ".join(["proc p 1 1 x", *inner.split(), "answer 0 end"])

    def test_none_to_five(self):
        for count in range(6):
            game = read_game(self.text(count))
            self.assertEqual(game.procs[0][3], ("x", *NAMES[:count]))
            self.assertEqual(game_text(game), self.text(count))

    def test_six(self):
        self.assertEqual(refused_at(self.text(6)), 5 + 10)
        self.assertEqual(refused_at(" ".join(self.text(6).split()[:16])), 15)

    def test_only_in_front_of_the_statements(self):
        self.assertEqual(refused_at("proc p 1 1 x let x 0 local y answer 0 end"), 8)
        self.assertEqual(refused_at("proc p 1 1 x if 0 local y end answer 0 end"), 7)
        self.assertEqual(refused_at("proc p 1 1 x answer 0 local y end"), 7)
        self.assertEqual(refused_at("proc p 1 1 local y answer 0 end"), 4)

    def test_the_parameter_must_be_there(self):
        self.assertEqual(refused_at("proc p 1 1 answer 0 end"), 4)

    def test_locals_are_those_of_their_procedure(self):
        text = "proc p 1 1 x local y answer y end proc r 1 1 z answer {} end"
        self.assertIsNone(refused_at(text.format("z")))
        for name in ("x", "y"):
            self.assertEqual(refused_at(text.format(name)), 16)


class TestDifferentNames(unittest.TestCase):

    def test_names_twice_of_each_kind(self):
        for _, line in LINES:
            size = len(line.split())
            self.assertEqual(refused_at(line.format("n") + " " + line.format("n")), size + 1)
            self.assertEqual(refused_at(many(line, 5) + " " + line.format("a")), 5 * size + 1)
            self.assertEqual(refused_at(many(line, 5) + " " + line.format("e")), 5 * size + 1)

    def test_locals_twice(self):
        self.assertEqual(refused_at("proc p 1 1 x local x answer 0 end"), 6)
        self.assertEqual(refused_at("proc p 1 1 x local y local x answer 0 end"), 8)
        self.assertEqual(refused_at("proc p 1 1 x local y local y answer 0 end"), 8)

    def test_locals_with_the_name_of_a_variable(self):
        for name in ("a", "b", "c"):
            text = "var a 1 0 var b 1 0 var c 1 0 proc p 1 1 {} local {} answer 0 end"
            self.assertEqual(refused_at(text.format(name, "x")), 16)
            self.assertEqual(refused_at(text.format("x", name)), 18)
            self.assertIsNone(refused_at(text.format("x", "y")))

    def test_the_same_name_for_different_kinds(self):
        text = "var n 5 0 table n 2 2 lots n 3 3 proc n 1 1 x answer n end"
        self.assertEqual(game_text(read_game(text)), text)
        text = "table n 2 2 lots n 3 3 proc n 1 1 n local m answer n end proc m 1 1 n local m answer m end"
        self.assertEqual(game_text(read_game(text)), text)

    def test_one_name_means_what_its_place_asks_for(self):
        text = "var n 5 0 table n 2 2 lots n 3 3 proc n 1 1 x put n n cell n n lot x n n set n has n n answer n end"
        block = read_game(text).procs[0][4]
        variable = ("variable", "n")
        self.assertEqual(block, (
            ("put", "n", variable, ("cell", "n", variable)), ("lot", "x", "n", variable),
            ("set", "n", ("has", "n", variable))))


class TestProcedures(unittest.TestCase):

    def test_answer_and_end(self):
        self.assertEqual(refused_at("proc p 1 1 x end"), 5)
        self.assertEqual(refused_at("proc p 1 1 x answer 0 0"), 7)
        self.assertEqual(refused_at("proc p 1 1 x answer 0 let x 1 end"), 7)
        self.assertEqual(refused_at("proc p 1 1 x answer 0 answer 0 end"), 7)
        self.assertEqual(refused_at("proc p 1 1 x answer end"), 6)
        self.assertEqual(refused_at("proc p 1 1 x answer 0 end end"), 8)
        self.assertEqual(refused_at("proc p 1 1 x proc r 1 1 x answer 0 end"), 5)

    def test_no_statements(self):
        self.assertEqual(read_game("proc p 1 1 x answer x end").procs, (("p", 1, 1, ("x",), (), ("local", "x")),))


if __name__ == "__main__":
    unittest.main()
