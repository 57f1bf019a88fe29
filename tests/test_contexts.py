"""Point 20: contexts around games."""

import copy
import unittest

from tellsnone.contexts import asks, compose
from tellsnone.errors import BadStep
from tellsnone.game import Game, game_text, read_game

GAME = (
    "var a 9 3 table t 4 5 lots o 8 7 "
    "proc p 6 5 x local y let y + x a lot x o y answer - x y end "
    "proc r 3 2 z draw z 2 answer z end"
)
SHORT = "proc p 6 5 x answer x end"
EVERYTHING = (
    "var a 9 3 table t 4 5 lots o 8 7 proc p 6 5 x local y set a x let y + x 1 draw x 3 put t x * y y lot y o - 9 x bad "
    "after let x y if = x 2 set a y else put t y 0 lot x o y end end "
    "if < y a draw y 2 if has t x bad end else let x cell t y after bad end end "
    "answer mod + x has t y cell t + 1 x end"
)
# The same statements with new names; the locals are to be put in.
RENAMED = (
    "set a {x} let {y} + {x} 1 draw {x} 3 put t {x} * {y} {y} lot {y} o - 9 {x} bad "
    "after let {x} {y} if = {x} 2 set a {y} else put t {y} 0 lot {x} o {y} end end "
    "if < {y} a draw {y} 2 if has t {x} bad end else let {x} cell t {y} after bad end end"
)


def read_context(text):
    return read_game(text, ("p", "r", "s"))


def proc(inner, statements, name="c", result="u"):
    """The text of a procedure of a context."""
    block = [statements] if statements else []
    return " ".join([f"proc {name} 2 2 u", *[f"local {local}" for local in inner], *block, f"answer {result} end"])


class Case(unittest.TestCase):

    def check(self, context, game, expected):
        """Checks a context around a game, and that both stay as they were."""
        outer, inner = read_context(context), read_game(game)
        before = copy.deepcopy((vars(outer), vars(inner)))
        found = compose(context=outer, game=inner)
        self.assertIs(type(found), Game)
        self.assertEqual(game_text(found), expected)
        self.assertEqual((vars(outer), vars(inner)), before)
        return found

    def refuse(self, context, game=GAME):
        outer = context if isinstance(context, Game) else read_context(context)
        inner = game if isinstance(game, Game) else read_game(game)
        with self.assertRaises(BadStep, msg=(context, game)) as caught:
            compose(outer, inner)
        self.assertIs(type(caught.exception), BadStep)
        self.assertEqual(caught.exception.rule, "inside")


class TestAsks(unittest.TestCase):

    def check(self, text, expected):
        context = read_context(text)
        before = copy.deepcopy(vars(context))
        self.assertEqual(asks(context=context), expected)
        self.assertIs(type(asks(context)), int)
        self.assertEqual(vars(context), before)

    def test_none(self):
        self.check("", 0)
        self.check("var a 1 0 table t 1 1 lots o 1 1", 0)
        self.check(proc((), ""), 0)
        self.check(proc((), "let u 1 if u draw u 2 end") + " " + proc((), "", "d"), 0)

    def test_one_procedure(self):
        self.check(proc((), "ask u p 1"), 1)
        self.check(proc((), "ask u p 1 ask u r u let u 1 ask u p 1"), 3)

    def test_inner_ones(self):
        self.check(proc((), "if u ask u p 1 else ask u r 1 end"), 2)
        self.check(proc((), "if u ask u p 1 end"), 1)
        self.check(proc((), "if u else ask u p 1 ask u p 1 end ask u r 1"), 3)
        self.check(proc((), "if u if u if u ask u p 1 else ask u p 2 end ask u p 3 else ask u p 4 end end"), 4)
        self.check(proc((), "after ask u p 1 if u ask u p 1 end after ask u p 1 end end"), 3)

    def test_several_procedures(self):
        self.check(" ".join([proc((), "ask u p 1"), proc((), "ask u p 1 ask u p 1", "d"), proc((), "", "e")]), 2)
        self.check(" ".join([proc((), "ask u p 1 " * 4 + "let u 1"), proc((), "ask u p 1", "d"),
                             proc((), "if u ask u p 1 else ask u p 1 end ask u p 1", "e")]), 4)
        self.check(" ".join([proc((), "", "d"), proc((), "", "e"), proc((), "ask u p 1")]), 1)

    def test_many(self):
        self.check(proc((), "ask u p 1 " * 99 + "ask u p 1"), 100)


class TestCompose(Case):

    def test_no_asks(self):
        self.check("", "", "")
        self.check("", GAME, "var a 9 3 table t 4 5 lots o 8 7")
        self.check("var c 2 0", "", "var c 2 0")
        self.check("var c 2 0 " + proc(("v",), "let v 1 if v set c 1 end", result="v"), GAME,
                   "var c 2 0 var a 9 3 table t 4 5 lots o 8 7 proc c 2 2 u local v let v 1 if v set c 1 end answer v end")

    def test_order(self):
        self.check("var z 1 0 var b 2 1 table z 3 4 table b 5 6 lots z 7 8 lots b 9 10 " + proc((), "", "z") + " "
                   + proc((), "", "b"),
                   "var y 1 0 var a 2 1 table y 3 4 table a 5 6 lots y 7 8 lots a 9 10 " + SHORT,
                   "var z 1 0 var b 2 1 var y 1 0 var a 2 1 table z 3 4 table b 5 6 table y 3 4 table a 5 6 "
                   "lots z 7 8 lots b 9 10 lots y 7 8 lots a 9 10 proc z 2 2 u answer u end proc b 2 2 u answer u end")

    def test_one_ask(self):
        found = self.check(
            proc((), "ask u p 7"), GAME,
            "var a 9 3 table t 4 5 lots o 8 7 proc c 2 2 u local q0 local q1 let q0 mod 7 6 let q1 + q0 a lot q0 o q1 "
            "let u mod - q0 q1 5 answer u end")
        self.assertEqual(found.procs, ((
            "c", 2, 2, ("u", "q0", "q1"), (
                ("let", "q0", ("mod", ("number", 7), ("number", 6))),
                ("let", "q1", ("+", ("local", "q0"), ("variable", "a"))),
                ("lot", "q0", "o", ("local", "q1")),
                ("let", "u", ("mod", ("-", ("local", "q0"), ("local", "q1")), ("number", 5))),
            ), ("local", "u")),))

    def test_the_number_asked(self):
        for part in ("0", "65535", "u", "v", "c", "+ u v", "has k u", "cell k * v c", "+ + + + + + + 1 1 1 1 1 1 1 u"):
            self.check("var c 9 0 table k 2 2 " + proc(("v",), f"ask v p {part}"), SHORT,
                       "var c 9 0 table k 2 2 " + proc(("v", "q0"), f"let q0 mod {part} 6 let v mod q0 5"))

    def test_sizes_and_answers(self):
        for size, answers in ((1, 1), (1, 64), (64, 1), (63, 62)):
            self.check(proc((), "ask u p u"), f"proc p {size} {answers} x answer 9 end",
                       proc(("q0",), f"let q0 mod u {size} let u mod 9 {answers}"))

    def test_several_asks(self):
        self.check(proc((), "ask u p 1 let u + u 1 ask u r u ask u p 2"), GAME,
                   "var a 9 3 table t 4 5 lots o 8 7 " + proc(
                       ("q0", "q1", "q2", "q3", "q4"),
                       "let q0 mod 1 6 let q1 + q0 a lot q0 o q1 let u mod - q0 q1 5 let u + u 1 "
                       "let q2 mod u 3 draw q2 2 let u mod q2 2 "
                       "let q3 mod 2 6 let q4 + q3 a lot q3 o q4 let u mod - q3 q4 5"))

    def test_asks_in_if(self):
        self.check(proc(("v",), "if u ask v p 1 if v ask u p 2 else ask u p 3 end ask u p 4 else ask u p 5 end ask u p 6"),
                   SHORT,
                   proc(("v", "q0", "q1", "q2", "q3", "q4", "q5"),
                        "if u let q0 mod 1 6 let v mod q0 5 if v let q1 mod 2 6 let u mod q1 5 else "
                        "let q2 mod 3 6 let u mod q2 5 end let q3 mod 4 6 let u mod q3 5 else "
                        "let q4 mod 5 6 let u mod q4 5 end let q5 mod 6 6 let u mod q5 5"))

    def test_each_procedure_begins_with_q0(self):
        self.check(" ".join([proc(("v",), "ask v p u"), proc((), "", "d"), proc((), "ask u r 1 ask u r 2", "e")]), GAME,
                   "var a 9 3 table t 4 5 lots o 8 7 " + " ".join([
                       proc(("v", "q0", "q1"), "let q0 mod u 6 let q1 + q0 a lot q0 o q1 let v mod - q0 q1 5"),
                       proc((), "", "d"),
                       proc(("q0", "q1"), "let q0 mod 1 3 draw q0 2 let u mod q0 2 let q1 mod 2 3 draw q1 2 let u mod q1 2",
                            "e")]))

    def test_numbers_of_locals(self):
        for many in range(1, 7):
            inner = [f"x{at}" for at in range(many)]
            game = " ".join(["proc p 6 5 x0", *[f"local {local}" for local in inner[1:]],
                             *[f"let {local} + x0 {at}" for at, local in enumerate(inner)], f"answer {inner[-1]} end"])
            new = [f"q{at}" for at in range(3 * many)]
            block = []
            for ask in range(3):
                mine = new[ask * many:ask * many + many]
                block.extend([f"let {mine[0]} mod {ask} 6",
                              *[f"let {local} + {mine[0]} {at}" for at, local in enumerate(mine)],
                              f"let v mod {mine[-1]} 5"])
            self.check(proc(("v",), "ask v p 0 ask v p 1 ask v p 2"), game, proc(("v", *new), " ".join(block)))

    def test_locals_that_no_statement_names(self):
        self.check(proc((), "ask u p u ask u p u"), "proc p 6 5 x local y local z answer z end",
                   proc([f"q{at}" for at in range(6)], "let q0 mod u 6 let u mod q2 5 let q3 mod u 6 let u mod q5 5"))

    def test_new_names_stand_behind_the_locals(self):
        self.check(proc(("v", "w", "d", "e", "f"), "ask e p f"), SHORT,
                   proc(("v", "w", "d", "e", "f", "q0"), "let q0 mod f 6 let e mod q0 5"))

    def test_every_kind_of_statement(self):
        first, second = {"x": "q0", "y": "q1"}, {"x": "q2", "y": "q3"}
        self.check(proc(("v",), "ask v p u if v ask u p v end"), EVERYTHING,
                   "var a 9 3 table t 4 5 lots o 8 7 " + proc(
                       ("v", "q0", "q1", "q2", "q3"),
                       "let q0 mod u 6 " + RENAMED.format(**first) + " let v mod mod + q0 has t q1 cell t + 1 q0 5 "
                       "if v let q2 mod v 6 " + RENAMED.format(**second) + " let u mod mod + q2 has t q3 cell t + 1 q2 5 end"))

    def test_what_only_the_context_has_is_not_renamed(self):
        self.check("var z 3 0 table x 2 2 lots y 3 3 " + proc(
            ("x", "y"), "let x 1 draw y 2 set z x put x y x lot x y y ask x p y let y x", result="+ x y"), SHORT,
            "var z 3 0 table x 2 2 lots y 3 3 " + proc(
                ("x", "y", "q0"), "let x 1 draw y 2 set z x put x y x lot x y y let q0 mod y 6 let x mod q0 5 let y x",
                result="+ x y"))

    def test_locals_with_names_of_other_things(self):
        self.check(proc((), "ask u p u"),
                   "table x 2 2 lots x 3 3 proc p 6 5 x local p put x x x lot p x cell x x let p + x p answer has x p end",
                   "table x 2 2 lots x 3 3 " + proc(
                       ("q0", "q1"), "let q0 mod u 6 put x q0 q0 lot q1 x cell x q0 let q1 + q0 q1 let u mod has x q1 5"))
        self.check("var y 5 0 " + proc((), "ask u p u"), "var x 5 0 proc p 6 5 y let y + x y set x y answer y end",
                   "var y 5 0 var x 5 0 " + proc(("q0",), "let q0 mod u 6 let q0 + x q0 set x q0 let u mod q0 5"))

    def test_names_that_both_share_for_different_things(self):
        self.check("var n 5 0 table o 2 2 lots t 3 3 " + proc((), "ask u p u lot u t n put o n u", "n"),
                   "var m 5 0 table n 2 2 lots o 3 3 " + SHORT,
                   "var n 5 0 var m 5 0 table o 2 2 table n 2 2 lots t 3 3 lots o 3 3 "
                   + proc(("q0",), "let q0 mod u 6 let u mod q0 5 lot u t n put o n u", "n"))
        self.check("var n 5 0 " + proc(("x",), "ask x p n"), "proc p 6 5 n local u let u n answer u end",
                   "var n 5 0 " + proc(("x", "q0", "q1"), "let q0 mod n 6 let q1 q0 let x mod q1 5"))
        self.check(proc(("x",), "ask x p u ask u p x"), "proc p 6 5 u local x let x u answer x end",
                   proc(("x", "q0", "q1", "q2", "q3"),
                        "let q0 mod u 6 let q1 q0 let x mod q1 5 let q2 mod x 6 let q3 q2 let u mod q3 5"))

    def test_procedures_of_the_context_with_names_of_the_game(self):
        self.check(proc((), "ask u r u", "p") + " " + proc((), "ask u p u", "r"), SHORT + " proc r 3 2 x answer 1 end",
                   proc(("q0",), "let q0 mod u 3 let u mod 1 2", "p") + " "
                   + proc(("q0",), "let q0 mod u 6 let u mod q0 5", "r"))

    def test_bad_and_after_in_the_game(self):
        self.check(proc((), "ask u p u"), "proc p 6 5 x bad after let x 1 bad end if x bad else after end end answer x end",
                   proc(("q0",), "let q0 mod u 6 bad after let q0 1 bad end if q0 bad else after end end let u mod q0 5"))

    def test_contexts_in_contexts(self):
        inner = compose(read_context("var b 2 0 " + proc((), "set b u", "p", "b")), read_game("var a 2 0"))
        found = compose(read_context(proc((), "ask u p 1")), inner)
        self.assertEqual(game_text(found),
                         "var b 2 0 var a 2 0 " + proc(("q0",), "let q0 mod 1 2 set b q0 let u mod b 2"))

    def test_more_than_a_text_may_have(self):
        rows = " ".join([f"var a{at} 2 0" for at in range(6)])
        more = " ".join([f"var b{at} 2 0" for at in range(6)])
        self.check(more, rows, more + " " + rows)
        deep = "if u " * 6 + "ask u p u " + "end " * 5 + "end"
        inner = "if x " * 6 + "bad " + "end " * 5 + "end"
        self.check(proc((), deep), f"proc p 6 5 x {inner} answer x end",
                   proc(("q0",), "if u " * 6 + "let q0 mod u 6 " + "if q0 " * 6 + "bad " + "end " * 6
                        + "let u mod q0 5 " + "end " * 5 + "end"))


class TestRefused(Case):

    def test_shared_names(self):
        self.refuse("var a 1 0")
        self.refuse("var b 1 0 var a 9 3 var c 1 0")
        self.refuse("table t 4 5")
        self.refuse("table b 1 1 table t 1 1")
        self.refuse("lots o 8 7")
        self.refuse("lots b 1 1 lots c 1 1 lots o 1 1")
        self.refuse("var b 1 0", "var c 1 0 var b 1 0 var d 1 0")
        self.refuse("table b 1 1", "table c 1 1 table b 1 1 table d 1 1")
        self.refuse("lots b 1 1", "lots c 1 1 lots b 1 1 lots d 1 1")
        self.check("var t 1 0 table o 1 1 lots a 1 1", GAME,
                   "var t 1 0 var a 9 3 table o 1 1 table t 4 5 lots a 1 1 lots o 8 7")

    def test_locals_with_the_name_of_a_variable(self):
        self.refuse(proc(("a",), ""))
        self.refuse(proc(("v", "a", "w"), "ask u p 1"))
        self.refuse("proc c 1 1 a answer 0 end")
        self.refuse(proc((), "ask u p 1") + " " + proc(("v",), "", "d") + " " + proc(("v", "a"), "", "e"))
        self.refuse(proc(("b",), ""), "var a 1 0 var c 1 0 var b 1 0")

    def test_names_that_begin_with_q(self):
        for name in ("q", "q0", "qq", "q123456", "quite", "q9"):
            self.refuse(f"var {name} 1 0")
            self.refuse(f"var b 1 0 var {name} 1 0")
            self.refuse(proc((name,), "ask u p 1"))
            self.refuse(proc((), "") + " " + proc(("v", name), "", "d"))
            self.refuse(f"proc c 1 1 {name} answer 0 end")
            self.refuse("", f"var {name} 1 0")
            self.refuse("", f"var b 1 0 var {name} 1 0")
            self.refuse(proc((), "ask u p 1"), f"proc p 1 1 {name} answer 0 end")
            self.refuse("", SHORT + f" proc r 1 1 x local y local {name} answer 0 end")
            self.refuse(proc((), "ask u p 1"), SHORT + f" proc r 1 1 {name} answer 0 end")

    def test_names_that_may_begin_with_q(self):
        self.check(f"table q 1 1 lots q0 1 1 {proc((), 'ask u p u', 'q')}", f"table q0 2 2 lots q 2 2 {SHORT}",
                   "table q 1 1 table q0 2 2 lots q0 1 1 lots q 2 2 "
                   + proc(("q0",), "let q0 mod u 6 let u mod q0 5", "q"))
        context = read_game(proc((), "ask u q1 u"), ("q1",))
        self.assertEqual(game_text(compose(context, read_game("proc q1 6 5 x answer x end"))),
                         proc(("q0",), "let q0 mod u 6 let u mod q0 5"))
        self.check("var aq 1 0 " + proc(("xq",), ""), "var bq 1 0 proc p 1 1 yq answer 0 end",
                   "var aq 1 0 var bq 1 0 " + proc(("xq",), ""))

    def test_procedures_that_there_are_not(self):
        for block in ("ask u s 1", "ask u p 1 ask u s 1", "if u ask u s 1 end", "if u else ask u s 1 end",
                      "if u if u if u else if u if u ask u s 1 end end end end end"):
            self.refuse(proc((), block))
            self.refuse(proc((), "ask u p 1") + " " + proc((), block, "d"))
        self.refuse(proc((), "ask u p 1"), "")
        self.refuse(proc((), "ask u r 1"), SHORT)
        self.refuse(proc((), "ask u s 1", "s"), SHORT)

    def test_bad_and_after_in_the_context(self):
        for block in ("bad", "after end", "after let u 1 end", "ask u p 1 bad", "if u bad end", "if u else bad end",
                      "if u after end end", "if u else let u 1 after bad end end", "if u if u if u if u bad end end end end",
                      "after ask u p 1 end"):
            self.refuse(proc((), block))
            self.refuse(proc((), "ask u p 1") + " " + proc((), "", "d") + " " + proc((), block, "e"))

    def test_faults_without_asks(self):
        for context in ("var a 1 0", "table t 1 1", "lots o 1 1", proc(("a",), ""), proc(("q",), ""), "var q 1 0",
                        proc((), "bad"), proc((), "after end")):
            self.refuse(context)
        self.check(proc((), ""), GAME, "var a 9 3 table t 4 5 lots o 8 7 " + proc((), ""))

    def test_a_composed_game_has_names_that_begin_with_q(self):
        inner = compose(read_context(proc((), "ask u p 1", "p")), read_game(SHORT))
        self.refuse(proc((), "ask u p 1"), inner)
        self.refuse("", inner)
        self.refuse(inner, SHORT)

    def test_a_refused_context_and_game_stay_as_they_were(self):
        context, game = read_context("var a 1 0 " + proc((), "ask u p 1")), read_game(GAME)
        before = copy.deepcopy((vars(context), vars(game)))
        self.refuse(context, game)
        self.assertEqual((vars(context), vars(game)), before)


if __name__ == "__main__":
    unittest.main()
