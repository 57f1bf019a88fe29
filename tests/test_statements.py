"""Point 5: statements and expressions."""

import unittest

from helpers import block_of, block_refused_at, expression_refused_at, in_proc, refused_at, result_of
from tellsnone.game import game_text, read_game

OPERATORS = ("+", "-", "*", "/", "mod", "<", "=")
ONE = ("number", 1)
BAD = ("bad",)


def nested(words):
    """Statements in one another: `if`, `else` (an `if` with the others in its second part), `after`."""
    opening = {"if": "if 1", "else": "if 1 else", "after": "after"}
    return " ".join([*[opening[word] for word in words], "bad", *["end" for _ in words]])


class TestSimpleStatements(unittest.TestCase):

    def test_each(self):
        cases = (
            ("set a 1", ("set", "a", ONE)),
            ("set b + x a", ("set", "b", ("+", ("local", "x"), ("variable", "a")))),
            ("let x 1", ("let", "x", ONE)),
            ("let y b", ("let", "y", ("variable", "b"))),
            ("draw x 1", ("draw", "x", 1)),
            ("draw y 64", ("draw", "y", 64)),
            ("put t 1 x", ("put", "t", ONE, ("local", "x"))),
            ("put s has t 1 cell s y", ("put", "s", ("has", "t", ONE), ("cell", "s", ("local", "y")))),
            ("lot x o 1", ("lot", "x", "o", ONE)),
            ("lot y u < x 1", ("lot", "y", "u", ("<", ("local", "x"), ONE))),
            ("bad", BAD),
        )
        for text, data in cases:
            self.assertEqual(block_of(text), (data,))
            self.assertEqual(block_of(text + " bad " + text), (data, BAD, data))
            self.assertEqual(game_text(read_game(in_proc(text))), in_proc(text))

    def test_names_that_do_not_exist(self):
        cases = (
            ("set x 1", 1), ("set z 1", 1), ("set t 1", 1), ("set o 1", 1), ("set p 1", 1),
            ("let a 1", 1), ("let z 1", 1), ("let t 1", 1), ("let o 1", 1), ("let p 1", 1),
            ("draw a 1", 1), ("draw z 1", 1), ("draw t 1", 1),
            ("put o 1 1", 1), ("put a 1 1", 1), ("put x 1 1", 1), ("put z 1 1", 1),
            ("lot a o 1", 1), ("lot z o 1", 1), ("lot x t 1", 2), ("lot x z 1", 2), ("lot x a 1", 2), ("lot x x 1", 2),
            ("set a z", 2), ("let x t", 2), ("let x o", 2), ("let x p", 2), ("put t 1 z", 3), ("put t z 1", 2),
            ("lot x o z", 3), ("if z end", 1), ("if 1 let z 1 end", 3), ("after set z 1 end", 2),
        )
        for text, at in cases:
            self.assertEqual(block_refused_at(text), at, text)

    def test_how_many_can_be_drawn(self):
        for number in (1, 2, 63, 64):
            self.assertEqual(block_of("draw x " + str(number)), (("draw", "x", number),))
        for number in ("0", "65", "65535", "x", "a"):
            self.assertEqual(block_refused_at("draw x " + number), 2)

    def test_parts_that_lack(self):
        end = len("answer 0 end".split())
        for text in ("set", "set a", "let", "let x", "draw", "draw x", "put", "put t", "put t 1", "lot", "lot x",
                     "lot x o", "if"):
            size = len(text.split())
            self.assertEqual(block_refused_at(text), size, text)
            cut = " ".join(in_proc(text).split()[:-end])
            self.assertEqual(refused_at(cut), len(cut.split()), text)

    def test_parts_too_many(self):
        for text, at in (("set a 1 1", 3), ("let x 1 x", 3), ("draw x 1 1", 3), ("put t 1 1 1", 4),
                         ("lot x o 1 1", 4), ("bad 1", 1), ("after 1 end", 1), ("if 1 1 end", 2)):
            self.assertEqual(block_refused_at(text), at, text)


class TestChoices(unittest.TestCase):

    def test_if(self):
        cases = (
            ("if 1 bad end", ("if", ONE, (BAD,), ())),
            ("if 1 end", ("if", ONE, (), ())),
            ("if 1 bad else let x 1 end", ("if", ONE, (BAD,), (("let", "x", ONE),))),
            ("if 1 else bad end", ("if", ONE, (), (BAD,))),
            ("if 1 bad bad else bad bad bad end", ("if", ONE, (BAD,) * 2, (BAD,) * 3)),
            ("if if1 end", None),
        )
        for text, data in cases:
            if data is None:
                self.assertEqual(block_refused_at(text), 1)
            else:
                self.assertEqual(block_of(text), (data,))
                self.assertEqual(game_text(read_game(in_proc(text))), in_proc(text))

    def test_else_must_not_be_empty(self):
        self.assertEqual(block_refused_at("if 1 else end"), 3)
        self.assertEqual(block_refused_at("if 1 bad else end"), 4)
        self.assertEqual(block_refused_at("if 1 bad else if 1 else end end"), 7)

    def test_else_where_it_cannot_stand(self):
        self.assertEqual(block_refused_at("else bad end"), 0)
        self.assertEqual(block_refused_at("after else bad end"), 1)
        self.assertEqual(block_refused_at("after bad else bad end"), 2)
        self.assertEqual(block_refused_at("if 1 bad else bad else bad end"), 5)
        self.assertEqual(block_refused_at("if 1 after bad else bad end end"), 4)

    def test_else_belongs_to_the_inner_one(self):
        self.assertEqual(block_of("if 1 if 0 else bad end end"),
                         (("if", ONE, (("if", ("number", 0), (), (BAD,)),), ()),))
        self.assertEqual(block_of("if 1 if 0 end else bad end"),
                         (("if", ONE, (("if", ("number", 0), (), ()),), (BAD,)),))

    def test_after(self):
        for text, data in (("after bad end", ("after", (BAD,))), ("after end", ("after", ())),
                           ("after let x 1 after end end", ("after", (("let", "x", ONE), ("after", ()))))):
            self.assertEqual(block_of(text), (data,))
            self.assertEqual(game_text(read_game(in_proc(text))), in_proc(text))

    def test_answer_stands_outside(self):
        self.assertEqual(block_refused_at("if 1 answer 0 end"), 2)
        self.assertEqual(block_refused_at("if 1 else bad answer 0 end"), 4)
        self.assertEqual(block_refused_at("after answer 0 end"), 1)
        self.assertEqual(block_refused_at("end"), 0)
        self.assertEqual(block_refused_at("bad end"), 1)


class TestDepthOfStatements(unittest.TestCase):

    def chains(self, depth):
        for first in ("if", "else", "after"):
            for second in ("if", "else", "after"):
                yield [(first, second)[at % 2] for at in range(depth)]
                yield [first] * (depth - 1) + [second]
                yield [first] + [second] * (depth - 1)

    def test_six_deep(self):
        for depth in (1, 5, 6):
            for chain in self.chains(depth):
                text = in_proc(nested(chain))
                self.assertEqual(game_text(read_game(text)), text)

    def test_seven_deep(self):
        size = {"if": 2, "else": 3, "after": 1}
        for depth in (7, 8):
            for chain in self.chains(depth):
                at = sum([size[word] for word in chain[:6]])
                self.assertEqual(block_refused_at(nested(chain)), at, chain)

    def test_beside_deep_ones(self):
        deep = nested(["if", "after", "else", "if", "if", "after"])
        text = in_proc(deep + " if 1 " + nested(["if"] * 5) + " else " + nested(["after"] * 5) + " end " + deep)
        self.assertEqual(game_text(read_game(text)), text)
        innermost = deep.split().index("bad") - 1
        self.assertEqual(block_refused_at(deep + " if 1 " + deep + " end"), len(deep.split()) + 2 + innermost)

    def test_all_other_statements_at_the_greatest_depth(self):
        deep = "if 1 " * 6 + "let x 1 set a 1 draw x 2 put t 1 1 lot x o 1 ask x p 1 bad" + " end" * 6
        self.assertEqual(game_text(read_game(in_proc(deep), ("p",))), in_proc(deep))


class TestExpressions(unittest.TestCase):

    def test_each(self):
        x, a = ("local", "x"), ("variable", "a")
        cases = [
            ("0", ("number", 0)), ("65535", ("number", 65535)), ("x", x), ("y", ("local", "y")), ("a", a),
            ("b", ("variable", "b")), ("has t x", ("has", "t", x)), ("cell s a", ("cell", "s", a)),
            ("has t cell t has s 1", ("has", "t", ("cell", "t", ("has", "s", ONE)))),
        ]
        for sign in OPERATORS:
            cases.append((sign + " x a", (sign, x, a)))
            cases.append((sign + " " + sign + " x a 1", (sign, (sign, x, a), ONE)))
            cases.append((sign + " 1 " + sign + " a x", (sign, ONE, (sign, a, x))))
            cases.append((sign + " has t 1 cell s x", (sign, ("has", "t", ONE), ("cell", "s", x))))
        for text, data in cases:
            self.assertEqual(result_of(text), data)
            self.assertEqual(game_text(read_game(in_proc("", text))), in_proc("", text))

    def test_words_that_are_no_expressions(self):
        for word in ("t", "o", "p", "z", "-1", "!", "++", ">", "<=", "==", "**", "//", "div", "not", "(", "bad", "let"):
            self.assertEqual(expression_refused_at(word), 0, word)
            self.assertEqual(expression_refused_at("+ " + word + " 1"), 1, word)
            self.assertEqual(expression_refused_at("+ 1 " + word), 2, word)
            self.assertEqual(expression_refused_at("has t " + word), 2, word)
            self.assertEqual(expression_refused_at("cell t " + word), 2, word)

    def test_tables_that_do_not_exist(self):
        for word in ("has", "cell"):
            for table in ("o", "u", "a", "x", "p", "z", "0"):
                self.assertEqual(expression_refused_at(word + " " + table + " 1"), 1)

    def test_parts_that_lack(self):
        for sign in OPERATORS:
            self.assertEqual(expression_refused_at(sign), 1)
            self.assertEqual(expression_refused_at(sign + " 1"), 2)
            self.assertEqual(expression_refused_at(sign + " 1 1 1"), 3)
        self.assertEqual(expression_refused_at("has t"), 2)
        self.assertEqual(expression_refused_at("has t 1 1"), 3)

    def test_names_of_another_procedure(self):
        text = "proc r 1 1 z answer z end proc p 1 1 x {} answer {} end"
        self.assertIsNone(refused_at(text.format("let x x", "x")))
        self.assertEqual(refused_at(text.format("let x z", "x")), 15)
        self.assertEqual(refused_at(text.format("let z x", "x")), 14)
        self.assertEqual(refused_at(text.format("let x x", "z")), 17)


class TestDepthOfExpressions(unittest.TestCase):

    def chains(self, parts):
        """Expressions with so many parts around a number, and the index of the eighth part that has parts."""
        for sign in OPERATORS:
            yield " ".join([sign] * parts + ["1"] * (parts + 1)), 7
            yield " ".join([sign + " 1"] * parts + ["1"]), 14
            yield " ".join([sign + " has t"] * (parts // 2) + ["cell t"] * (parts % 2) + ["1"] * (parts // 2 + 1)), 10
        yield "has t " * parts + "1", 14
        yield "cell t " * parts + "1", 14
        yield "has t cell s " * (parts // 2) + "has t " * (parts % 2) + "1", 14

    def test_eight_deep(self):
        for parts in (1, 6, 7):
            for text, _ in self.chains(parts):
                self.assertEqual(game_text(read_game(in_proc("", text))), in_proc("", text))

    def test_nine_deep(self):
        for parts in (8, 9):
            for text, at in self.chains(parts):
                self.assertEqual(expression_refused_at(text), at, text)

    def test_each_part_has_its_own_depth(self):
        seven = "+ 1 " * 6 + "1"
        self.assertIsNone(expression_refused_at("- " + seven + " " + seven))
        sixth = 10
        self.assertEqual(expression_refused_at("- 1 - " + seven + " " + seven), 3 + sixth)
        self.assertEqual(expression_refused_at("- " + seven + " + 1 " + seven), 1 + 13 + 2 + sixth)

    def test_expressions_of_statements(self):
        eight, nine = "+ 1 " * 7 + "1", "+ 1 " * 8 + "1"
        for text in ("set a {}", "let x {}", "put t {} 1", "put t 1 {}", "lot x o {}", "if {} bad end", "ask x p {}",
                     "if 1 after if 1 let x {} end end end"):
            self.assertIsNone(block_refused_at(text.format(eight), ("p",)))
            at = text.split().index("{}") + 14
            self.assertEqual(block_refused_at(text.format(nine), ("p",)), at, text)


class TestAsk(unittest.TestCase):

    def test_without_names(self):
        self.assertEqual(block_refused_at("ask x p 1"), 0)
        self.assertEqual(block_refused_at("let x 1 ask x p 1"), 3)
        self.assertEqual(block_refused_at("if 1 ask x p 1 end"), 2)

    def test_with_names(self):
        ask = ("ask", "x", "other", ("+", ("local", "x"), ONE))
        for asked in (("other",), ("p", "other"), ["other", "more"]):
            self.assertEqual(block_of("ask x other + x 1", asked), (ask,))
            self.assertEqual(block_of("if 1 ask x other + x 1 else after ask x other + x 1 end end", asked),
                             (("if", ONE, (ask,), (("after", (ask,)),)),))
            text = in_proc("ask x other + x 1")
            self.assertEqual(game_text(read_game(text, asked)), text)

    def test_with_another_name(self):
        self.assertEqual(block_refused_at("ask x other 1", ("p",)), 2)
        self.assertEqual(block_refused_at("ask x p 1", ("other",)), 2)
        self.assertEqual(block_refused_at("ask x oth 1", ("other",)), 2)
        self.assertEqual(block_refused_at("ask x a 1", ("other",)), 2)
        self.assertEqual(block_refused_at("ask a p 1", ("p",)), 1)
        self.assertEqual(block_refused_at("ask z p 1", ("p",)), 1)
        self.assertEqual(block_refused_at("ask x p z", ("p",)), 3)
        self.assertEqual(block_refused_at("ask x p", ("p",)), 3)

    def test_texts_that_do_not_ask(self):
        text = in_proc("let x 1", "x")
        self.assertEqual(read_game(text, ("p", "q")), read_game(text))

    def test_asked_names_are_not_taken(self):
        text = "var p 2 0 proc r 2 2 x ask x p p answer x end"
        self.assertEqual(read_game(text, ("p", "r")).procs[0][4], (("ask", "x", "p", ("variable", "p")),))
        text = "proc p 2 2 p ask p p p answer p end"
        self.assertEqual(read_game(text, ("p",)).procs[0][4], (("ask", "p", "p", ("local", "p")),))


if __name__ == "__main__":
    unittest.main()
