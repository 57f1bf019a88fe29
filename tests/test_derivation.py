"""Points 15 and 17: derivations."""

import copy
import unittest
from fractions import Fraction

import oracle
from helpers import fraction
from steps import ROWS, game_with, proc
from tellsnone.bounds import Bound, nothing
from tellsnone.contexts import compose
from tellsnone.derivation import Derivation, same
from tellsnone.errors import BadStep, TooLarge
from tellsnone.game import Game, read_game
from tellsnone.ratio import Ratio
from tellsnone.until import counted

# For each rule of point 16: a step, a game in which it holds, and one in which it does not.
PLAIN = (
    (("fold",), "if + 1 1 let y * 2 2 end", None),
    (("swap", "p", 1), "bad let y 1 set a x", "bad let y 1 set a y"),
    (("drop", "p", 0), "let y 1 set a x", "let y 1 set a y"),
    (("toss", "p", 1, "v", 3), "let y 1", ""),
    (("shift", "p", 0), "draw y 4 let y mod + y x 4", "draw y 4 let y mod + y y 4"),
    (("sink", "p", 0), "draw y 4 if x bad end", "draw y 4 if y bad end"),
    (("erase", "variable", "a"), "set a 1", "let y a"),
    (("erase", "table", "t"), "put t 1 1", "let y has t 1"),
    (("spell", "o"), "lot y o x", "lot y o y"),
)
HIT = "draw y 4 if has t y bad end put t x 0"
COIN = "proc p 1 2 x draw x 2 answer x end"
ONE = "proc p 1 2 x answer 1 end"
LIAR = "proc p 1 2 x draw x 4 answer x end"
HUGE = "proc p 1 2 x draw x 64 draw x 64 draw x 64 answer x end"
WIDE = "proc p 64 64 x draw x 64 answer x end"


def bound(flat=0, first=0, more=0, limit=None):
    ratios = [Ratio(Fraction(part).numerator, Fraction(part).denominator) for part in (flat, first, more)]
    return Bound(*ratios, limit)


def context_of(block, asked=("p",), rows="", result="u"):
    return read_game(f"{rows}proc c 2 2 u local v {block} answer {result} end", asked)


def known(derivation):
    """What a derivation has, to be compared later."""
    return (vars(derivation.first), vars(derivation.last), vars(derivation.bound))


class Case(unittest.TestCase):

    def taken(self, derivation, step, game, added=None):
        """Checks what a step that holds does, and what it leaves as it was."""
        first, last, before = derivation.first, derivation.last, derivation.bound
        parts = copy.deepcopy((vars(first), vars(last), vars(before)))
        self.assertIsNone(derivation.step(step))
        self.assertIs(derivation.first, first)
        self.assertIs(type(derivation.last), Game)
        self.assertEqual(vars(derivation.last), vars(game))
        self.assertIs(type(derivation.bound), Bound)
        self.assertTrue(derivation.bound == before.plus(nothing() if added is None else added),
                        (step[0], [str(each) for each in vars(derivation.bound).values()]))
        self.assertEqual((vars(first), vars(last), vars(before)), parts)

    def refused(self, derivation, step, rule=None):
        """Checks that a step does not hold, and changes nothing."""
        first, last, before = derivation.first, derivation.last, derivation.bound
        parts = copy.deepcopy(known(derivation))
        with self.assertRaises(BadStep, msg=step) as caught:
            derivation.step(step)
        self.assertIs(type(caught.exception), BadStep)
        self.assertEqual(caught.exception.rule, step[0] if rule is None else rule)
        self.assertTrue(derivation.first is first and derivation.last is last and derivation.bound is before)
        self.assertEqual(known(derivation), parts)


class TestBeginning(Case):

    def test_attributes(self):
        game = read_game(COIN)
        derivation = Derivation(game=game)
        self.assertIs(derivation.first, game)
        self.assertIs(derivation.last, game)
        self.assertIs(type(derivation.bound), Bound)
        self.assertTrue(derivation.bound == nothing())


class TestPlainSteps(Case):

    def test_steps_that_hold(self):
        for step, statements, _ in PLAIN:
            game = read_game(game_with(statements))
            derivation = Derivation(game)
            self.taken(derivation, step, same(game, step))
            self.assertTrue(derivation.bound == nothing())
            self.assertFalse(derivation.last == game)

    def test_steps_that_do_not_hold(self):
        for step, statements, other in PLAIN:
            if other is not None:
                self.refused(Derivation(read_game(game_with(other))), step)
        for step in (("swap", "v", 0), ("drop", "v", 0), ("toss", "p", 9, "v", 2), ("shift", "p", 9), ("sink", "p", 9),
                     ("erase", "lots", "o"), ("spell", "t"), ("swap", "p", -1), ("drop", "p", -1)):
            self.refused(Derivation(read_game(game_with("let y 1 let y 1"))), step)

    def test_several_steps(self):
        derivation = Derivation(read_game(game_with("draw y 4 let y mod + y x 4 let z 1 if 1 set a y end", "x")))
        for step, statements in ((("shift", "p", 0), "draw y 4 let z 1 if 1 set a y end"),
                                 (("drop", "p", 1), "draw y 4 if 1 set a y end"),
                                 (("sink", "p", 0), "if 1 draw y 4 set a y else draw y 4 end"),
                                 (("fold",), "draw y 4 set a y")):
            self.taken(derivation, step, read_game(game_with(statements, "x")))
        self.refused(derivation, ("swap", "p", 0))
        self.taken(derivation, ("erase", "variable", "a"), read_game(game_with("draw y 4", "x").replace("var a 9 3 ", "")))
        self.refused(derivation, ("erase", "variable", "a"))
        self.assertTrue(derivation.first == read_game(game_with("draw y 4 let y mod + y x 4 let z 1 if 1 set a y end", "x")))

    def test_unknown_rules(self):
        derivation = Derivation(read_game(COIN))
        for step in (("folds",), ("",), ("Fold",), ("begin", "p", 0), ("open",), ("close", read_game("")), ("game", read_game("")),
                     ("forth", read_game(COIN), ("fold",)), ("none",)):
            self.refused(derivation, step)


class TestBack(Case):

    def test_each_rule(self):
        for step, statements, other in PLAIN:
            game = read_game(game_with(statements))
            derivation = Derivation(same(game, step))
            self.taken(derivation, ("back", game, step), game)
            self.assertTrue(derivation.bound == nothing())
            self.assertIs(derivation.last, game)
            self.taken(derivation, step, same(game, step))

    def test_games_from_which_the_step_leads_elsewhere(self):
        for step, statements, other in PLAIN:
            game = read_game(game_with(statements))
            derivation = Derivation(same(game, step))
            for elsewhere in (game_with(statements + " set n 1"), game_with(statements, "1"),
                              game_with(statements).replace("var n 9 0", "var n 9 1")):
                self.refused(derivation, ("back", read_game(elsewhere), step))
            self.refused(Derivation(game), ("back", game, step))

    def test_steps_that_do_not_hold_there(self):
        for step, statements, other in PLAIN:
            if other is not None:
                game = read_game(game_with(other))
                self.refused(Derivation(game), ("back", game, step))
                self.refused(Derivation(same(read_game(game_with(statements)), step)), ("back", game, step))

    def test_steps_that_are_none_of_them(self):
        game = read_game(COIN)
        within = Derivation(read_game(""))
        for step in (("until", game), ("back", game, ("fold",)), ("reckon", game, 1), ("inside", read_game(""), within),
                     ("folds",), ("",), ("back", game, ("back", game, ("fold",)))):
            self.refused(Derivation(game), ("back", game, step))

    def test_a_game_in_which_nothing_changes(self):
        game = read_game(COIN)
        self.taken(Derivation(game), ("back", read_game(COIN), ("fold",)), game)


class TestUntil(Case):

    def test_equal_games(self):
        for text, added in ((COIN, nothing()), (ROWS + proc(HIT), bound(0, 0, Fraction(1, 4)))):
            game = read_game(text)
            self.taken(Derivation(game), ("until", read_game(text)), game, added)

    def test_games_that_are_alike(self):
        for statements, added in ((HIT, bound(0, 0, Fraction(1, 4))), ("put t 0 0 " + HIT, bound(0, Fraction(1, 4), Fraction(2, 4))),
                                  ("draw y 5 if = y x bad end", bound(0, Fraction(1, 5))), ("", nothing()),
                                  ("draw y 5 if = y x if 1 bad else if a bad end end end", bound(0, Fraction(1, 5)))):
            game = read_game(game_with(" ".join([*statements.split(), "after let x 1 end"])))
            other = read_game(game_with(" ".join([*statements.split(), "after set a x bad end"])))
            derivation = Derivation(game)
            self.assertTrue(counted(game) == added)
            self.taken(derivation, ("until", other), other, added)
            self.assertIs(derivation.last, other)
            self.taken(derivation, ("until", game), game, added)
            self.assertTrue(derivation.bound == added.plus(added))

    def test_games_that_are_not_alike(self):
        game = game_with(HIT + " after end")
        derivation = Derivation(read_game(game))
        for other in (game_with(HIT), game_with(HIT + " after end", "1"), game_with(HIT + " after end after end"), COIN,
                      game.replace("put t x 0", "put t x 1"), game.replace("var n 9 0", "var n 9 1"),
                      game.replace("table t 4 5", "table t 4 6"), game.replace("proc p", "proc r")):
            self.refused(derivation, ("until", read_game(other)))

    def test_games_without_a_count(self):
        for statements in ("bad", "draw y 4 if = y y bad end", "draw y 4 let z 1 if has t y bad end", "if x bad end",
                           "draw y 5 if has t y bad end", "draw y 4 if = y x if a bad end else if a bad end end"):
            game = read_game(game_with(statements + " after end"))
            other = read_game(game_with(statements + " after let x 1 end"))
            self.refused(Derivation(game), ("until", other))
            self.refused(Derivation(game), ("until", game))


class TestReckon(Case):

    def test_numbers_of_calls(self):
        for calls, flat in ((0, 0), (1, Fraction(1, 2)), (2, Fraction(3, 4)), (3, Fraction(7, 8)), (8, Fraction(255, 256))):
            for one, other in ((COIN, ONE), (ONE, COIN)):
                game = read_game(other)
                self.taken(Derivation(read_game(one)), ("reckon", game, calls), game, bound(flat, 0, 0, calls))

    def test_the_same_game(self):
        for calls in (0, 1, 5):
            self.taken(Derivation(read_game(COIN)), ("reckon", read_game(COIN), calls), read_game(COIN), bound(0, 0, 0, calls))

    def test_games_that_differ_only_in_what_nobody_sees(self):
        game = read_game("var a 9 0 " + COIN.replace("draw x 2", "draw x 6 set a x let x < x 3"))
        self.taken(Derivation(read_game(COIN)), ("reckon", game, 4), game, bound(0, 0, 0, 4))

    def test_another_face(self):
        derivation = Derivation(read_game(COIN))
        for other in ("", COIN.replace("proc p", "proc r"), COIN.replace("1 2", "2 2"), COIN.replace("1 2", "1 3"),
                      COIN + " " + COIN.replace("proc p", "proc r")):
            for calls in (0, 1, 8):
                self.refused(derivation, ("reckon", read_game(other), calls))

    def test_numbers_beyond_the_limits(self):
        """A point limits q, but names no error for more; a bound with a negative limit there cannot be."""
        self.taken(Derivation(read_game(COIN)), ("reckon", read_game(ONE), 9), read_game(ONE), bound(Fraction(511, 512), 0, 0, 9))
        self.refused(Derivation(read_game(COIN)), ("reckon", read_game(ONE), -1))

    def test_another_face_comes_ahead_of_what_is_too_large(self):
        self.refused(Derivation(read_game(HUGE)), ("reckon", read_game(HUGE.replace("1 2", "1 3")), 2))

    def test_too_large(self):
        for one, other, calls, what in ((HUGE, HUGE, 1, "ways"), (COIN, HUGE, 2, "ways"), (HUGE, COIN, 1, "ways"),
                                        (WIDE, WIDE, 2, "looks")):
            derivation = Derivation(read_game(one))
            last, before = derivation.last, derivation.bound
            parts = copy.deepcopy(known(derivation))
            with self.assertRaises(TooLarge) as caught:
                derivation.step(("reckon", read_game(other), calls))
            self.assertEqual(caught.exception.what, what)
            self.assertTrue(derivation.last is last and derivation.bound is before)
            self.assertEqual(known(derivation), parts)
        self.taken(Derivation(read_game(HUGE)), ("reckon", read_game(COIN), 0), read_game(COIN), bound(0, 0, 0, 0))

    def test_several(self):
        derivation = Derivation(read_game(COIN))
        for text, calls in ((ONE, 3), (LIAR, 2), (COIN, 5)):
            derivation.step(("reckon", read_game(text), calls))
        self.assertTrue(derivation.bound == bound(Fraction(7, 8) + Fraction(3, 4), 0, 0, 2))
        self.assertEqual([fraction(derivation.bound.at(calls)) for calls in range(4)], [0, 1, 1, 1])
        derivation.step(("reckon", read_game(COIN), 0))
        self.assertTrue(derivation.bound == bound(Fraction(7, 8) + Fraction(3, 4), 0, 0, 0))


class TestInside(Case):

    def other(self, *steps, first=COIN):
        derivation = Derivation(read_game(first))
        for step in steps:
            derivation.step(step)
        return derivation

    def check(self, context, other, added):
        """Takes a step of another derivation within a context, and checks that the other one stays as it was."""
        game = compose(context, other.first)
        derivation = Derivation(game)
        last, inner = other.last, other.bound
        parts = copy.deepcopy((known(other), vars(context)))
        self.taken(derivation, ("inside", context, other), compose(context, other.last), added)
        self.assertTrue(other.last is last and other.bound is inner)
        self.assertEqual((known(other), vars(context)), parts)
        return derivation

    def test_numbers_of_asks(self):
        other = self.other(("reckon", read_game(LIAR), 7), ("reckon", read_game(ONE), 8))
        self.assertTrue(other.bound == bound(1 - Fraction(1, 256), 0, 0, 7))
        for block, asked, limit in (("let u 1", 0, None), ("ask u p 1", 1, 7), ("ask u p 1 ask v p u", 2, 3),
                                    ("if u ask u p 1 else ask v p 1 end ask u p v", 3, 2), ("ask u p 1 " * 8 + "let u 0", 8, 0)):
            self.check(context_of(block), other, bound(1 - Fraction(1, 256) if asked else 0, 0, 0, limit))

    def test_counts(self):
        game = "table t 4 1 proc p 4 2 x local y put t 0 0 draw y 4 if has t y bad end put t x 0 after {}end answer x end"
        other = self.other(("until", read_game(game.format("let x 3 "))), first=game.format(""))
        self.assertTrue(other.bound == bound(0, Fraction(1, 4), Fraction(1, 2)))
        for asked in range(5):
            context = context_of("ask u p u " * asked + "let v 0")
            self.check(context, other, other.bound.within(asked))
        self.check(context_of("ask u p u ask u p u ask u p u"), other,
                   bound(0, Fraction(3, 4) + 3 * Fraction(1, 2), 9 * Fraction(1, 2)))

    def test_the_greatest_number_of_asks_in_a_procedure(self):
        other = self.other(("reckon", read_game(ONE), 6))
        context = read_game("proc c 1 2 u ask u p 1 answer u end proc d 1 2 u ask u p 1 ask u p 2 ask u p 3 answer u end "
                            "proc e 1 2 u ask u p 1 ask u p 2 answer u end", ("p",))
        self.check(context, other, bound(Fraction(63, 64), 0, 0, 2))

    def test_no_steps(self):
        for block in ("let u 1", "ask u p 1", "ask u p 1 ask u p 2"):
            self.check(context_of(block), self.other(), nothing())

    def test_games_that_are_not_the_context_around_the_first_game(self):
        context, other = context_of("ask u p u", rows="var k 2 0 "), self.other(("reckon", read_game(ONE), 1))
        whole = compose(context, other.first)
        name, size, answers, inner, block, result = whole.procs[0]
        for game in (
            Game((("k", 2, 1),), (), (), whole.procs), Game((("k", 3, 0),), (), (), whole.procs), Game((), (), (), whole.procs),
            Game(whole.variables, (("t", 1, 1),), (), whole.procs), Game(whole.variables, (), (("o", 1, 1),), whole.procs),
            Game(whole.variables, (), (), ((name, size, answers, inner, block, ("local", "v")),)),
            Game(whole.variables, (), (), ((name, size, answers, inner, block[:-1], result),)),
            Game(whole.variables, (), (), ((name, size, answers, inner, (*block, ("bad",)), result),)),
            Game(whole.variables, (), (), ((name, size, answers, (*inner, "w"), block, result),)),
            Game(whole.variables, (), (), ((name, size, 3, inner, block, result),)),
            Game(whole.variables, (), (), (("d", size, answers, inner, block, result),)),
            Game(whole.variables, (), (), whole.procs * 2), Game(whole.variables, (), (), ()),
            compose(context, other.last), context, other.first, read_game(""),
        ):
            self.refused(Derivation(game), ("inside", context, other))
        self.check(context, other, bound(Fraction(1, 2), 0, 0, 1))

    def test_a_context_that_does_not_hold_around_the_first_game(self):
        for context in (context_of("bad"), context_of("after end"), context_of("ask u r 1", ("r",)), context_of("let u 1", rows="var q 1 0 ")):
            for game in (context, read_game(""), read_game(COIN)):
                self.refused(Derivation(game), ("inside", context, self.other()))

    def test_a_context_that_does_not_hold_around_the_last_game(self):
        first, context = read_game(COIN), context_of("ask u p u", rows="var k 2 0 table t 1 1 lots o 1 1 ")
        for rows in ("var k 2 0 ", "table t 1 1 ", "lots o 1 1 ", "var u 2 0 ", "var q 2 0 "):
            other = self.other(("reckon", read_game(rows + COIN), 1))
            self.refused(Derivation(compose(context, first)), ("inside", context, other))
        other = self.other(("toss", "p", 0, "q", 2))
        self.refused(Derivation(compose(context, first)), ("inside", context, other))
        self.check(context, self.other(("toss", "p", 0, "w", 2)), nothing())

    def test_steps_that_the_other_derivation_takes_later(self):
        other = self.other(("reckon", read_game(LIAR), 1))
        context = context_of("ask u p u")
        derivation = self.check(context, other, bound(0, 0, 0, 1))
        parts = copy.deepcopy(known(derivation))
        last, before = derivation.last, derivation.bound
        other.step(("reckon", read_game(ONE), 1))
        other.step(("toss", "p", 0, "v", 2))
        self.assertTrue(derivation.last is last and derivation.bound is before)
        self.assertEqual(known(derivation), parts)

    def test_contexts_in_contexts(self):
        # A composed game that asks has names with q, so a reckon renames its locals before it is asked itself.
        innermost = self.other(("reckon", read_game(ONE), 8))
        inner = context_of("ask u p u ask v p u", result="+ u v")
        renamed = [read_game(f"proc c 2 2 u local v local w local z {block} answer + u v end")
                   for block in ("draw w 2 let u w draw z 2 let v z", "let u 1 let v 1")]
        middle = Derivation(renamed[0])
        middle.step(("reckon", compose(inner, innermost.first), 6))
        middle.step(("inside", inner, innermost))
        middle.step(("reckon", renamed[1], 5))
        self.assertTrue(middle.bound == bound(Fraction(255, 256), 0, 0, 4))
        outer = read_game("proc d 1 2 u ask u c 0 ask u c 1 answer u end", ("c",))
        derivation = self.check(outer, middle, bound(Fraction(255, 256), 0, 0, 2))
        self.assertEqual(fraction(derivation.bound.at(2)), Fraction(255, 256))
        self.assertEqual(fraction(derivation.bound.at(3)), 1)

    def test_itself(self):
        game = read_game("var k 2 0 proc c 2 2 u answer u end")
        derivation = Derivation(compose(game, read_game("")))
        self.refused(derivation, ("inside", game, derivation))
        derivation = Derivation(read_game(""))
        self.taken(derivation, ("inside", read_game(""), derivation), read_game(""))


class TestSums(Case):

    def test_steps_of_all_kinds(self):
        text = "table t 4 1 proc p 4 2 x local y local z put t 0 0 draw y 4 if has t y bad end put t x 0 after {} end {}answer x end"
        one, two = text.format("let x 1", ""), text.format("let x 0", "")
        derivation = Derivation(read_game(one))
        added = bound(0, Fraction(1, 4), Fraction(2, 4))
        self.taken(derivation, ("until", read_game(two)), read_game(two), added)
        self.taken(derivation, ("back", read_game(text.format("let x 0", "let z 1 ")), ("drop", "p", 5)),
                   read_game(text.format("let x 0", "let z 1 ")))
        self.refused(derivation, ("until", read_game(one)))
        self.taken(derivation, ("drop", "p", 5), read_game(two))
        self.taken(derivation, ("until", read_game(one)), read_game(one), added)
        most = [oracle.greatest_gain(read_game(two), read_game(one), calls) for calls in (1, 2)]
        self.assertEqual(most[0], Fraction(1, 4))
        self.taken(derivation, ("reckon", read_game(two), 1), read_game(two), bound(most[0], 0, 0, 1))
        self.taken(derivation, ("reckon", read_game(one), 2), read_game(one), bound(most[1], 0, 0, 2))
        self.assertTrue(derivation.bound == bound(most[0] + most[1], Fraction(1, 2), 1, 1))

    def test_the_smallest_limit(self):
        for limits, expected in (((3, 5), 3), ((5, 3), 3), ((4,), 4), ((2, 2), 2), ((7, 1, 8), 1), ((7, 0, 8), 0)):
            derivation = Derivation(read_game(COIN))
            for limit in limits:
                derivation.step(("fold",))
                derivation.step(("reckon", read_game(COIN), limit))
                derivation.step(("until", read_game(COIN)))
            self.assertTrue(derivation.bound == bound(0, 0, 0, expected))

    def test_a_bound_that_was_read_earlier_stays(self):
        derivation = Derivation(read_game(COIN))
        before = derivation.bound
        derivation.step(("reckon", read_game(ONE), 1))
        between = derivation.bound
        derivation.step(("reckon", read_game(COIN), 2))
        self.assertTrue(before == nothing())
        self.assertTrue(between == bound(Fraction(1, 2), 0, 0, 1))
        self.assertTrue(derivation.bound == bound(Fraction(5, 4), 0, 0, 1))

    def test_two_derivations_from_one_game(self):
        game = read_game(COIN)
        one, other = Derivation(game), Derivation(game)
        one.step(("reckon", read_game(ONE), 1))
        self.assertTrue(other.last is game and other.first is game and one.first is game)
        self.assertTrue(other.bound == nothing())


if __name__ == "__main__":
    unittest.main()
