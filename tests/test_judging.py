"""Points 17 and 27: judging papers, and deriving."""

import copy
import unittest
from fractions import Fraction
from random import Random

from helpers import fraction
from tellsnone.bounds import nothing
from tellsnone.contexts import compose
from tellsnone.derivation import Derivation
from tellsnone.errors import BadPaper, BadStep, TooLarge
from tellsnone.game import game_text, read_game
from tellsnone.papers import derived, judged, paper_lines, read_paper

COIN = "proc p 1 2 x draw x 2 answer x end"
ONE = "proc p 1 2 x answer 1 end"
HUGE = "proc p 1 2 x draw x 64 draw x 64 draw x 64 answer x end"
WIDE = "proc p 64 64 x draw x 64 answer x end"
BLOCK = "proc p 6 5 x local y {} answer x end"
# For each rule: statements in front of it, its line, and statements behind it.
HOLDING = (
    ("let y + 1 2", "fold", "let y 3"), ("let x 1 let y 2", "swap p 0", "let y 2 let x 1"), ("let x 1 draw y 2", "drop p 1", "let x 1"),
    ("draw y 2 let y mod + y x 2", "shift p 0", "draw y 2"), ("draw y 2 if x end", "sink p 0", "if x draw y 2 else draw y 2 end"),
)
FAILING = (
    ("let y x let x 1", "swap p 0", "swap"), ("let y x", "drop p 1", "drop"), ("let y x", "toss p 0 x 2", "toss"),
    ("let y x", "toss p 0 z 65", "toss"), ("let y x", "toss p 0 z 0", "toss"), ("draw y 3 let y mod + y x 3", "shift p 0", "shift"),
    ("draw y 3 if y end", "sink p 0", "sink"), ("let y x", "erase variable a", "erase"), ("let y x", "erase table t", "erase"),
    ("let y x", "spell o", "spell"), ("let y x", "swap r 0", "swap"), ("let y x", "back fold = " + COIN, "back"),
    ("let y x", "back drop p 0 = " + BLOCK.format("let x 1 let y x"), "back"), ("let y x", "until " + COIN, "until"),
    ("bad", "until " + BLOCK.format("bad"), "until"), ("let y x", "reckon 1 " + COIN, "reckon"), ("let y x", "reckon 0 ", "reckon"),
)


def asking(block="ask u p 1", name="c"):
    return f"proc {name} 2 2 u local v {block} answer u end"


def around(context, game):
    """The text of a context around a game."""
    return game_text(compose(read_game(context, ("p",)), read_game(game)))


def known(derivation):
    return (vars(derivation.first), vars(derivation.last), [fraction(part) for part in (
        derivation.bound.flat, derivation.bound.first, derivation.bound.more)], derivation.bound.limit)


class Case(unittest.TestCase):

    def check(self, lines, last, flat=0, first=0, more=0, limit=None):
        """Checks what a paper, and what its steps derive, and that what is passed stays as it was."""
        before = list(lines)
        found = judged(lines=lines)
        self.assertEqual(lines, before)
        self.assertIs(type(found), Derivation)
        game, steps = read_paper(lines)
        kept = (copy.deepcopy(vars(game)), copy.deepcopy(steps))
        other = derived(first=game, steps=steps)
        self.assertIs(type(other), Derivation)
        self.assertEqual((vars(game), steps), kept)
        for each in (found, other):
            self.assertEqual(game_text(each.first), lines[0][len("game "):])
            self.assertEqual(game_text(each.last), last)
            self.assertEqual(vars(each.last), vars(read_game(last)))
            self.assertEqual(known(each)[2:], ([flat, first, more], limit))
        self.assertIs(other.first, game)
        self.assertEqual(known(found), known(other))
        return found

    def refuse(self, lines, at, rule=None):
        """Checks that a paper is refused; if a rule is told, its lines can stand, and this step does not hold."""
        before = list(lines)
        with self.assertRaises(BadPaper, msg=lines) as caught:
            judged(lines)
        self.assertIs(type(caught.exception), BadPaper)
        self.assertEqual(caught.exception.at, at, lines)
        self.assertEqual(lines, before)
        if rule is not None:
            game, steps = read_paper(lines)
            kept = (copy.deepcopy(vars(game)), copy.deepcopy(steps))
            with self.assertRaises(BadStep, msg=lines) as caught:
                derived(game, steps)
            self.assertIs(type(caught.exception), BadStep)
            self.assertEqual(caught.exception.rule, rule)
            self.assertEqual((vars(game), steps), kept)

    def too_large(self, lines, what):
        with self.assertRaises(TooLarge) as caught:
            judged(lines)
        self.assertIs(type(caught.exception), TooLarge)
        self.assertEqual(caught.exception.what, what)
        return caught


class TestHolding(Case):

    def test_no_steps(self):
        for text in ("", COIN):
            found = self.check([f"game {text}"], text)
            self.assertIs(found.first, found.last)
            self.assertTrue(found.bound == nothing())

    def test_each_rule(self):
        for before, line, after in HOLDING:
            self.check([f"game {BLOCK.format(before)}", line], BLOCK.format(after))
            self.check([f"game {BLOCK.format(after)}", f"back {line} = {BLOCK.format(before)}"], BLOCK.format(before))
        self.check([f"game {ONE}", "toss p 0 v 64"], "proc p 1 2 x local v draw v 64 answer 1 end")
        self.check([f"game var a 9 3 table a 4 5 {ONE}", "erase variable a", "erase table a"], ONE)
        self.check([f"game lots o 4 5 {ONE}", "spell o"], f"table o 4 5 {ONE}")
        self.check([f"game table o 4 5 {ONE}", f"back spell o = lots o 4 5 {ONE}"], f"lots o 4 5 {ONE}")

    def test_until_and_reckon(self):
        text = "proc p 1 2 x draw x 5 if = x 3 bad end let x 0 after let x {} end answer x end"
        self.check([f"game {text.format(1)}", f"until {text.format(0)}"], text.format(0), 0, Fraction(1, 5))
        self.check([f"game {COIN}", f"reckon 2 {ONE}"], ONE, Fraction(3, 4), limit=2)
        self.check([f"game {COIN}", f"reckon 2 {ONE}", f"reckon 1 {COIN}", "fold"], COIN, Fraction(5, 4), limit=1)
        self.check([f"game {COIN}", f"reckon 0 {ONE}"], ONE, limit=0)
        self.check(["game ", "until ", "reckon 8 "], "", limit=8)

    def test_inside(self):
        for block, asked, limit in (("let u 1", 0, None), ("ask u p 1", 1, 4), ("ask u p 1 ask v p u", 2, 2)):
            context = asking(block)
            self.check([f"game {around(context, COIN)}", "open", f"game {COIN}", f"reckon 4 {ONE}", f"close {context}"],
                       around(context, ONE), Fraction(15, 16) if asked else 0, limit=limit)
        self.check(["game ", "open", "game ", "close "], "")

    def test_three_deep(self):
        lines = ["game ", "fold"]
        for _ in range(3):
            lines = ["game ", "open", *lines, "close ", "fold"]
            self.check(lines, "")
        inner = "proc p 1 2 x local q0 let q0 mod 0 1 draw q0 2 let x mod q0 2 answer x end"
        middle = "proc p 1 2 x ask x p 0 answer x end"
        outer = asking("ask u p 0 ask v p 0")
        self.check([f"game {around(outer, COIN)}", "open", f"game {COIN}", f"reckon 5 {inner}", "open", f"game {COIN}",
                    f"reckon 4 {ONE}", f"close {middle}", f"reckon 7 {ONE}", f"close {outer}"],
                   around(outer, ONE), Fraction(15, 16), limit=2)

    def test_several_beside_each_other(self):
        context = asking("ask u p 1")
        forth = ["open", f"game {COIN}", f"reckon 3 {ONE}", f"close {context}"]
        back = ["open", f"game {ONE}", f"reckon 2 {COIN}", f"close {context}"]
        self.check([f"game {around(context, COIN)}", *forth, *back, *forth], around(context, ONE),
                   Fraction(7, 8) * 2 + Fraction(3, 4), limit=2)

    def test_a_judged_derivation_goes_on(self):
        found = judged([f"game {COIN}", f"reckon 2 {ONE}"])
        found.step(("reckon", read_game(COIN), 3))
        self.assertEqual(known(found)[2:], ([Fraction(3, 4) + Fraction(7, 8), 0, 0], 2))


class TestFailing(Case):

    def test_each_rule(self):
        for statements, line, rule in FAILING:
            text = BLOCK.format(statements)
            self.refuse([f"game {text}", line], 1, rule)
            self.refuse([f"game {text}", f"until {text}", "reckon 1 " + text, line, "fold"], 1 if "bad" in text else 3)

    def test_in_inner_derivations(self):
        for statements, line, rule in FAILING:
            text = BLOCK.format(statements)
            self.refuse(["game ", "open", f"game {text}", line, "close "], 3, rule)
            self.refuse(["game ", "fold", "open", "game ", "open", f"game {text}", line, "fold", "close ", "close "], 6, rule)

    def test_inside(self):
        context = asking("ask u p 1")
        whole = around(context, COIN)
        inner = ["open", f"game {COIN}", "fold", f"close {context}"]
        self.check([f"game {whole}", *inner], whole)
        for text in ("", COIN, context.replace("ask u p 1 ", ""), whole.replace("answer u", "answer v"),
                     whole.replace("c 2 2", "c 2 3"), "var a 1 0 " + whole, whole.replace("let u mod q0 2 ", "")):
            self.refuse([f"game {text}", *inner], 4, "inside")
            self.refuse([f"game {text}", "fold", *inner, "fold"], 5, "inside")
            self.refuse(["game ", "open", f"game {text}", *inner, "close "], 6, "inside")
        for wrong in (asking("bad"), asking("ask u p 1 after end"), "var q 1 0 " + context, asking("ask u p 1 ask u p 1")):
            self.refuse([f"game {whole}", "open", f"game {COIN}", f"close {wrong}"], 3, "inside")

    def test_a_context_that_does_not_hold_around_the_last_game(self):
        context = "var a 2 0 " + asking()
        self.refuse([f"game {around(context, COIN)}", "open", f"game {COIN}", f"reckon 1 var a 3 0 {COIN}", f"close {context}"], 4, "inside")

    def test_the_first_fault_counts(self):
        good, text = f"game {BLOCK.format('let x 1 let y 2')}", "drop p 7"
        self.refuse([good, "swap p 0", text, "foul"], 2)
        self.refuse([good, "swap p 0", "foul", text], 2)
        self.refuse([good, text, "open", "foul"], 1)
        self.refuse([good, text, "open"], 1)
        self.refuse([good, "swap p 0", "open"], 3)
        self.refuse([good, text, text], 1, "drop")
        self.refuse([good, "open", good, text, "foul"], 3)
        self.refuse([good, "open", good, "foul", text], 3)
        self.refuse([good, "open", good, text, "close ", text], 3, "drop")
        self.refuse([good, "open", good, "swap p 0", "close ", text], 4, "inside")
        self.refuse([good, "open", good, "swap p 0", "close foul", text], 4)
        self.refuse([good, "open", good, text, "open", "game ", "close ", "close "], 3, "drop")
        self.refuse(["foul", text], 0)
        self.refuse([], 0)
        self.refuse([good, "open", good, "swap p 0"], 4)

    def test_inner_steps_come_ahead_of_the_step_inside(self):
        good = f"game {BLOCK.format('let x 1 let y 2')}"
        self.refuse([good, "open", good, "drop p 7", f"close {asking('bad')}"], 3, "drop")
        self.refuse([good, "open", good, "swap p 0", f"close {asking('bad')}"], 4, "inside")


class TestTooLarge(Case):

    def test_searches(self):
        self.too_large([f"game {HUGE}", f"reckon 1 {HUGE}"], "ways")
        self.too_large([f"game {WIDE}", f"reckon 2 {WIDE}"], "looks")
        self.too_large(["game ", "open", f"game {WIDE}", "fold", f"reckon 2 {WIDE}", "close "], "looks")

    def test_faults_in_front_of_it(self):
        self.refuse([f"game {WIDE}", "drop p 7", f"reckon 2 {WIDE}"], 1)
        self.refuse([f"game {WIDE}", "foul", f"reckon 2 {WIDE}"], 1)
        self.refuse([f"game {WIDE}", f"reckon 2 {WIDE} "], 1)
        self.refuse([f"game {WIDE}", f"reckon 2 {COIN}"], 1, "reckon")

    def test_faults_behind_it(self):
        self.too_large([f"game {WIDE}", f"reckon 2 {WIDE}", "drop p 7"], "looks")
        self.too_large([f"game {WIDE}", f"reckon 2 {WIDE}", "foul"], "looks")
        self.too_large([f"game {WIDE}", f"reckon 2 {WIDE}", "open"], "looks")

    def test_reading_takes_no_steps(self):
        lines = [f"game {WIDE}", f"reckon 8 {WIDE}", "drop p 7"]
        self.assertEqual(paper_lines(*read_paper(lines)), lines)

    def test_derived(self):
        for steps in ([("reckon", read_game(WIDE), 2)], [("fold",), ("reckon", read_game(WIDE), 2), ("drop", "p", 9)]):
            with self.assertRaises(TooLarge) as caught:
                derived(read_game(WIDE), steps)
            self.assertEqual(caught.exception.what, "looks")


class TestChangedLines(unittest.TestCase):
    """Papers in which a word or a line was changed by chance: only BadPaper comes, and judging is never laxer than reading."""

    def papers(self):
        context = asking("ask u p 1")
        text = "table t 4 1 proc p 1 2 x local y local z {}draw y 4 if has t y bad end put t x 0 after {} end " \
               "answer x end"
        one, other, more = text.format("", "let x 1"), text.format("", "bad"), text.format("let z 0 ", "bad")
        inner = [f"game {one}", f"until {other}", "swap p 2", f"back swap p 2 = {other}", f"back drop p 0 = {more}", "drop p 0",
                 f"reckon 1 {other}"]
        return [[f"game {around(context, one)}", "open", *inner, f"close {context}", f"until {around(context, other)}"],
                ["game table t 4 1", "open", "game table t 4 1", "fold", "open", *inner, "close ", "reckon 8 table t 4 1", "close ",
                 "back erase variable a = var a 1 0 table t 4 1"]]

    def told(self, function, lines):
        try:
            return function(lines)
        except BadPaper as wrong:
            return wrong.at

    def check(self, lines):
        read, found = self.told(read_paper, lines), self.told(judged, lines)
        if isinstance(read, int):
            self.assertIsInstance(found, int, lines)
            self.assertLessEqual(found, read, lines)
            return 1
        try:
            self.assertEqual(known(derived(*read)), known(found))
        except BadStep:
            self.assertIsInstance(found, int, lines)
            return 1
        return 0

    def test_changed_words_and_lines(self):
        random, refused = Random(5), 0
        spare = ["p", "0", "1", "fold", "drop", "=", "", "end", "x", "t", "if", "close", "open", "game", "until", "back", "64", "65536"]
        for _ in range(400):
            lines = random.choice(self.papers())
            at = random.randrange(len(lines))
            words = lines[at].split(" ")
            k = random.randrange(len(words))
            pick = random.randrange(6)
            if pick == 0:
                words[k] = random.choice(spare)
            elif pick == 1:
                words.insert(k, random.choice(spare))
            elif pick == 2:
                del words[k]
            lines[at] = " ".join(words)
            if pick == 3:
                del lines[at]
            elif pick == 4:
                lines.insert(at, random.choice(lines))
            elif pick == 5:
                other = random.randrange(len(lines))
                lines[at], lines[other] = lines[other], lines[at]
            refused += self.check(lines)
        self.assertGreater(refused, 200)
        self.assertEqual([self.check(lines) for lines in self.papers()], [0, 0])


class TestDerived(unittest.TestCase):

    def test_unknown_rules(self):
        for step in (("folds",), ("",), ("open",)):
            with self.assertRaises(BadStep) as caught:
                derived(read_game(COIN), [("fold",), step])
            self.assertEqual(caught.exception.rule, step[0])
            with self.assertRaises(BadStep) as caught:
                derived(read_game(""), [("inside", read_game(""), (read_game(COIN), [step]))])
            self.assertEqual(caught.exception.rule, step[0])

    def test_deeper_than_lines_may_be(self):
        steps = [("fold",)]
        for _ in range(6):
            steps = [("inside", read_game(""), (read_game(""), steps))]
        found = derived(read_game(""), steps)
        self.assertTrue(found.last == read_game(""))

    def test_steps_in_a_tuple(self):
        found = derived(read_game(COIN), (("fold",), ("toss", "p", 0, "v", 2)))
        self.assertEqual(found.last.procs[0][3], ("x", "v"))

    def test_an_inner_derivation(self):
        context = read_game(asking("ask u p 1 ask u p 1"), ("p",))
        first = compose(context, read_game(COIN))
        steps = [("reckon", read_game(ONE), 3)]
        found = derived(first, [("inside", context, (read_game(COIN), steps))])
        self.assertEqual(steps, [("reckon", steps[0][1], 3)])
        self.assertTrue(found.last == compose(context, read_game(ONE)))
        self.assertEqual(known(found)[2:], ([Fraction(7, 8), 0, 0], 1))


if __name__ == "__main__":
    unittest.main()
