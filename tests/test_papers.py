"""Points 26 and 27: the lines of papers, writing and reading them."""

import copy
import unittest

from tellsnone.derivation import Derivation
from tellsnone.errors import BadPaper, BadStep
from tellsnone.game import Game, game_text, read_game
from tellsnone.papers import judged, paper_lines, read_paper

TEXT = "var a 9 3 table t 4 5 lots o 8 7 proc p 6 5 x local y let y = x 1 lot y o x answer = y 0 end"
OTHER = "proc p 6 5 x answer 1 end proc r 2 2 x answer = x 1 end"
EMPTY = ""
GAME, SECOND, NONE = read_game(TEXT), read_game(OTHER), read_game("")
CONTEXT = "proc c 2 2 u ask u p 1 ask u r u answer = u 1 end"
KEY_WORDS = ("var table lots proc local set let draw put lot ask if else end bad after answer has cell mod").split()
# Each step that nobody can notice, with its line.
PLAIN = (
    (("fold",), "fold"), (("swap", "p", 0), "swap p 0"), (("swap", "r", 65535), "swap r 65535"),
    (("drop", "p", 3), "drop p 3"), (("drop", "abcdefghijkl", 10), "drop abcdefghijkl 10"),
    (("toss", "p", 0, "v", 1), "toss p 0 v 1"), (("toss", "p", 7, "q0", 64), "toss p 7 q0 64"),
    (("toss", "p", 0, "v", 65535), "toss p 0 v 65535"), (("toss", "p", 0, "v", 0), "toss p 0 v 0"),
    (("shift", "p", 2), "shift p 2"), (("sink", "p", 1), "sink p 1"), (("erase", "variable", "a"), "erase variable a"),
    (("erase", "table", "t"), "erase table t"), (("spell", "o"), "spell o"), (("spell", "fold"), "spell fold"),
    (("swap", "swap", 0), "swap swap 0"), (("erase", "table", "variable"), "erase table variable"),
)
OTHERS = (
    *[(("back", GAME, step), f"back {line} = {TEXT}") for step, line in PLAIN],
    (("back", NONE, ("fold",)), "back fold = "), (("back", NONE, ("swap", "p", 0)), "back swap p 0 = "),
    (("until", GAME), f"until {TEXT}"), (("until", SECOND), f"until {OTHER}"), (("until", NONE), "until "),
    *[(("reckon", GAME, calls), f"reckon {calls} {TEXT}") for calls in range(9)], (("reckon", NONE, 3), "reckon 3 "),
)
# Lines that cannot stand behind the first game of the outermost derivation.
WRONG = (
    "", " ", "folds", "Fold", "fold ", " fold", "fold 0", "fold p", "fold\n", "fold\t", "swap", "swap p", "swap 0", "swap p 0 0",
    "swap  p 0", "swap p  0", "swap p 0 ", " swap p 0", "swap p x", "swap p 65536", "swap p 01", "swap p 00", "swap p -1", "swap p +1",
    "swap p 1.0", "swap p 100000", "swap P 0", "swap if 0", "swap abcdefghijklm 0", "swap 1p 0", "swap p_ 0", "swap p\t0",
    "drop", "drop p", "drop p 01", "drop p 0 0", "drop p q", "drop mod 0", "drop p 65536",
    "toss", "toss p", "toss p 0", "toss p 0 v", "toss p 0 v 2 2", "toss p 0 v 02", "toss p 0 v 65536", "toss p 0 v -1", "toss p 01 v 2",
    "toss p 0 V 2", "toss p 0 let 2", "toss p 0 abcdefghijklm 2", "toss p v 0 2", "toss p 0 1 2", "toss P 0 v 2", "toss p 0  2",
    "toss p 65536 v 2", "toss p 0 v x", "toss proc 0 v 2",
    "shift", "shift p", "shift p x", "shift p 0 0", "shift 0 p", "shift p 01", "shift P 0", "sink", "sink p", "sink p -1", "sink p 0 ",
    "sink end 0", "sink p 65536",
    "erase", "erase variable", "erase table", "erase a", "erase var a", "erase lots o", "erase variables a", "erase Table t",
    "erase table variable t", "erase variable a b", "erase variable A", "erase table has", "erase  variable a", "erase table 1",
    "erase variable ", "erase table t ", "erase local x", "erase variable abcdefghijklm",
    "spell", "spell ", "spell O", "spell o o", "spell 1", "spell lots", "spell  o", "spell o ", "spell abcdefghijklm",
    "back", "back ", "back fold", "back fold =", "back fold = var", f"back fold  = {TEXT}", f"back fold =  {TEXT}", f"back fold {TEXT}",
    f"back = {TEXT}", f"back  = {TEXT}", f"back  fold = {TEXT}", f"back swap p = {TEXT}", f"back swap p 01 = {TEXT}",
    f"back swap p 0 0 = {TEXT}", f"back fold = {TEXT} ", f"back fold = {TEXT} end", f"back folds = {TEXT}", f"back until = {TEXT}",
    f"back until {TEXT} = {TEXT}", f"back reckon 1 = {TEXT}", f"back reckon 1 {TEXT} = {TEXT}", f"back back fold = {TEXT} = {TEXT}",
    f"back open = {TEXT}", f"back close {TEXT} = {TEXT}", f"back close = {TEXT}", f"back game = {TEXT}", f"back erase lots o = {TEXT}",
    f"back fold = {CONTEXT}", f"back fold == {TEXT}", f"back fold= {TEXT}", f"back fold ={TEXT}", f"backs fold = {TEXT}",
    f"back toss p 0 v 65536 = {TEXT}", f"back spell  = {TEXT}",
    "until", "until  ", f"until  {TEXT}", f"until {TEXT} ", f"until {TEXT} {TEXT} end", "until proc", "until x", f"until {CONTEXT}",
    f"untils {TEXT}", f" until {TEXT}", f"until\t{TEXT}", "until var a 5 5", f"until 0 {TEXT}", f"until{TEXT}",
    "reckon", "reckon ", "reckon 0", "reckon 8", f"reckon {TEXT}", f"reckon 9 {TEXT}", f"reckon 10 {TEXT}", f"reckon 01 {TEXT}",
    f"reckon 00 {TEXT}", f"reckon -1 {TEXT}", f"reckon x {TEXT}", f"reckon  {TEXT}", f"reckon  1 {TEXT}", f"reckon 1  {TEXT}",
    f"reckon 1 {TEXT} ", "reckon 1 proc", f"reckon 1 1 {TEXT}", f"reckon 65536 {TEXT}", f"reckon 1 {CONTEXT}", "reckon 1 var",
    f"reckons 1 {TEXT}", f"reckon 8.0 {TEXT}", f"reckon +1 {TEXT}",
    "game", f"game {TEXT}", "game ", "close", "close ", f"close {TEXT}", "close 1", "opens", "open ", " open", "Open", "open open",
    f"open {TEXT}", "closed", "inside", "rename x y", TEXT, "0", "=", "same", "step fold",
)


class Case(unittest.TestCase):

    def check(self, first, steps, lines):
        """Checks the lines of a derivation both ways, and that what is passed stays as it was."""
        kept = copy.deepcopy(steps)
        self.assertEqual(paper_lines(first=first, steps=steps), lines)
        self.assertEqual(steps, kept)
        before = list(lines)
        found = read_paper(lines=lines)
        self.assertEqual(lines, before)
        self.assertIs(type(found), tuple)
        self.assertEqual(len(found), 2)
        self.assertIs(type(found[0]), Game)
        self.assertEqual(vars(found[0]), vars(first))
        self.assertIs(type(found[1]), list)
        self.assertEqual(found[1], steps)
        self.assertEqual([type(step) for step in found[1]], [tuple] * len(steps))

    def refuse(self, lines, at):
        """Checks that a paper cannot be read, nor judged if its steps hold so far."""
        before = list(lines)
        with self.assertRaises(BadPaper, msg=lines) as caught:
            read_paper(lines)
        self.assertIs(type(caught.exception), BadPaper)
        self.assertEqual(caught.exception.at, at, lines)
        self.assertEqual(lines, before)
        with self.assertRaises(BadPaper, msg=lines) as caught:
            judged(lines)
        self.assertEqual(caught.exception.at, at, lines)


class TestLines(Case):

    def test_no_steps(self):
        self.check(GAME, [], [f"game {TEXT}"])
        self.check(NONE, [], ["game "])

    def test_each_step(self):
        for step, line in (*PLAIN, *OTHERS):
            self.check(GAME, [step], [f"game {TEXT}", line])
            self.check(NONE, [step, ("fold",), step], ["game ", line, "fold", line])

    def test_all_steps(self):
        steps = [*PLAIN, *OTHERS]
        self.check(SECOND, [step for step, _ in steps], [f"game {OTHER}", *[line for _, line in steps]])

    def test_data(self):
        found = read_paper([f"game {TEXT}", "toss p 7 v 3", f"back erase table t = {OTHER}", f"reckon 8 {OTHER}", "until "])[1]
        self.assertEqual(repr(found[0]), "('toss', 'p', 7, 'v', 3)")
        self.assertEqual((found[1][0], found[1][2]), ("back", ("erase", "table", "t")))
        self.assertEqual((game_text(found[1][1]), game_text(found[2][1]), game_text(found[3][1])), (OTHER, OTHER, ""))
        self.assertEqual((found[2][0], found[2][2], found[3][0]), ("reckon", 8, "until"))
        self.assertEqual([len(step) for step in found], [5, 3, 3, 2])

    def test_one_deep(self):
        context = read_game(CONTEXT, ("p", "r"))
        self.check(GAME, [("fold",), ("inside", context, (SECOND, [("drop", "p", 1), ("until", SECOND)])), ("spell", "o")],
                   [f"game {TEXT}", "fold", "open", f"game {OTHER}", "drop p 1", f"until {OTHER}", f"close {CONTEXT}", "spell o"])
        self.check(GAME, [("inside", NONE, (NONE, []))], [f"game {TEXT}", "open", "game ", "close "])

    def test_several_beside_each_other(self):
        context = read_game(CONTEXT, ("p", "r"))
        inner = ("inside", context, (SECOND, [("fold",)]))
        lines = ["open", f"game {OTHER}", "fold", f"close {CONTEXT}"]
        self.check(GAME, [inner, inner, ("fold",), inner], [f"game {TEXT}", *lines, *lines, "fold", *lines])

    def test_two_and_three_deep(self):
        context = read_game(CONTEXT, ("p", "r"))
        steps, lines = [("drop", "p", 3)], [f"game {OTHER}", "drop p 3"]
        for deep in range(3):
            steps = [("fold",), ("inside", context, (SECOND, steps)), ("swap", "p", deep)]
            lines = [f"game {OTHER}", "fold", "open", *lines, f"close {CONTEXT}", f"swap p {deep}"]
            self.check(SECOND, steps, lines)
        twice = [("inside", context, (SECOND, steps[1][2][1])), ("inside", context, (SECOND, steps[1][2][1]))]
        inner = ["open", *lines[3:-2], f"close {CONTEXT}"]
        self.check(SECOND, twice, [f"game {OTHER}", *inner, *inner])

    def test_steps_in_all_of_them(self):
        context = read_game(CONTEXT, ("p", "r"))
        steps, lines = [step for step, _ in (*PLAIN, *OTHERS)], [line for _, line in (*PLAIN, *OTHERS)]
        innermost = ("inside", context, (SECOND, steps))
        inner = ["open", f"game {OTHER}", *lines, f"close {CONTEXT}"]
        middle = ("inside", context, (SECOND, [*steps, innermost, *steps]))
        self.check(SECOND, [middle, *steps], [f"game {OTHER}", "open", f"game {OTHER}", *lines, *inner, *lines,
                                              f"close {CONTEXT}", *lines])

    def test_contexts_ask_what_the_first_game_has(self):
        asking = "proc c 2 2 u ask u {} 1 answer u end"
        for name in ("p", "r"):
            context = read_game(asking.format(name), ("p", "r"))
            self.check(NONE, [("inside", context, (SECOND, []))],
                       ["game ", "open", f"game {OTHER}", f"close {asking.format(name)}"])
        for name in ("c", "s", "x", "o"):
            self.refuse([f"game {OTHER}", "open", f"game {OTHER}", f"close {asking.format(name)}"], 3)
        self.refuse([f"game {OTHER}", "open", "game ", f"close {asking.format('p')}"], 3)
        self.refuse([f"game {OTHER}", "open", f"game {TEXT}", f"close {asking.format('r')}"], 3)
        context = read_game("proc c 1 1 u answer u end")
        self.check(SECOND, [("inside", context, (NONE, []))], [f"game {OTHER}", "open", "game ", f"close {game_text(context)}"])

    def test_contexts_ask_not_what_another_game_has(self):
        # The step does not hold, but when only the lines are read, it leads from a game without procedures to this one.
        lines = ["game ", "open", "game ", f"reckon 0 {OTHER}", "close proc c 2 2 u ask u r 1 answer u end"]
        with self.assertRaises(BadPaper) as caught:
            read_paper(lines)
        self.assertEqual(caught.exception.at, 4)
        self.refuse([f"game {OTHER}", "open", "game ", "close proc c 2 2 u ask u r 1 answer u end"], 3)
        lines = ["game ", "open", f"game {OTHER}", "reckon 0 ", "close proc c 2 2 u ask u r 1 answer u end"]
        self.assertEqual(paper_lines(*read_paper(lines)), lines)


class TestWrongLines(Case):

    def test_no_lines(self):
        self.refuse([], 0)

    def test_first_lines(self):
        for line in ("", "game", "game  ", f"game  {TEXT}", f"game {TEXT} ", f"game {TEXT} end", "game var", "game x", f" game {TEXT}",
                     f"Game {TEXT}", f"games {TEXT}", TEXT, f"game {CONTEXT}", "fold", "open", f"until {TEXT}", f"close {TEXT}",
                     f"reckon 0 {TEXT}", "swap p 0", f"back fold = {TEXT}", f"game\t{TEXT}", f"game {TEXT}\n", "gamevar a 1 0"):
            self.refuse([line], 0)
            self.refuse([line, "fold"], 0)
            self.refuse([line, f"game {TEXT}"], 0)

    def test_other_lines(self):
        for line in WRONG:
            if line in ("close", "close ", f"close {TEXT}", "close 1"):
                continue
            self.refuse([f"game {TEXT}", line], 1)
            self.refuse([f"game {TEXT}", "fold", "fold", line, "fold", line], 3)
            self.refuse(["game ", "open", f"game {TEXT}", line], 3)
            self.refuse(["game ", "open", "game ", "fold", "open", f"game {TEXT}", "fold", line, "fold", "close ", "close "], 7)

    def test_close_in_the_outermost_derivation(self):
        for line in ("close ", "close", f"close {TEXT}", "close 1"):
            self.refuse(["game ", line], 1)
            self.refuse(["game ", "fold", line, "fold"], 2)
            self.refuse(["game ", "open", "game ", "close ", line], 4)
            self.refuse(["game ", "open", "game ", "open", "game ", "close ", "close ", line], 7)

    def test_wrong_close(self):
        for line in ("close", "close  ", f"close {TEXT} ", f"close  {TEXT}", "close var", "closed ", "close x", "Close ", " close ",
                     "close 1", f"close {CONTEXT}", "close\t"):
            self.refuse(["game ", "open", f"game {TEXT}", line], 3)
            self.refuse(["game ", "open", f"game {TEXT}", line, "close "], 3)

    def test_first_lines_of_inner_derivations(self):
        for line in ("", "game", "fold", "open", "close ", f"until {TEXT}", f"game {TEXT} ", "game x", TEXT, "swap p 0", f"game {CONTEXT}"):
            self.refuse(["game ", "open", line], 2)
            self.refuse(["game ", "fold", "open", line, "close "], 3)
            self.refuse(["game ", "open", "game ", "open", line, "close ", "close "], 4)

    def test_game_lines_at_other_places(self):
        for text in ("", TEXT):
            self.refuse(["game ", f"game {text}"], 1)
            self.refuse(["game ", "fold", f"game {text}"], 2)
            self.refuse(["game ", "open", "game ", f"game {text}"], 3)
            self.refuse(["game ", "open", "game ", "close ", f"game {text}"], 4)

    def test_four_deep(self):
        self.refuse(["game "] + ["open", "game "] * 3 + ["open"], 7)
        self.refuse(["game "] + ["open", "game "] * 4 + ["close "] * 4, 7)
        self.refuse(["game "] + ["open", "game "] * 3 + ["fold", "open", "game "] + ["close "] * 4, 8)
        self.refuse(["game "] + ["open", "game "] * 3 + ["close ", "open", "game ", "open"], 10)
        lines = ["game "] + ["open", "game "] * 3 + ["close ", "open", "game ", "close "] + ["close "] * 2
        self.assertEqual(paper_lines(*read_paper(lines)), lines)

    def test_lines_that_are_missing(self):
        lines = ["game ", "fold", "open", "game ", "fold", "open", "game ", "open", "game ", "fold", "close ", "close ", "fold", "close ",
                 "fold"]
        read_paper(lines)
        for many in (0, *range(3, 14)):
            self.refuse(lines[:many], many)
        for many in (1, 2, 14):
            read_paper(lines[:many])

    def test_the_first_wrong_line_counts(self):
        self.refuse(["game ", "fold", "foul", "foul", "game"], 2)
        self.refuse(["game ", "open", "game ", "foul", "close "], 3)
        self.refuse(["game ", "open", "fold", "foul", "close "], 2)


class TestSteps(unittest.TestCase):

    def test_lines_whose_steps_do_not_hold_can_stand(self):
        for step, line in PLAIN:
            self.assertEqual(read_paper(["game ", line]), (NONE, [step]))

    def test_derivations_deeper_than_lines_may_be(self):
        steps, lines = [], ["game "]
        for _ in range(5):
            steps, lines = [("inside", NONE, (NONE, steps))], ["game ", "open", *lines, "close "]
        self.assertEqual(paper_lines(NONE, steps), lines)

    def test_steps_may_stand_in_a_tuple(self):
        self.assertEqual(paper_lines(NONE, (("fold",), ("inside", NONE, (NONE, (("fold",),))))),
                         ["game ", "fold", "open", "game ", "fold", "close "])

    def test_a_new_list_each_time(self):
        lines = ["game ", "open", "game ", "close "]
        one, other = read_paper(lines), read_paper(lines)
        one[1].append(("fold",))
        one[1][0][2][1].append(("fold",))
        self.assertEqual(other, (NONE, [("inside", NONE, (NONE, []))]))

    def test_what_is_read_is_what_a_derivation_takes(self):
        first, steps = read_paper([f"game {TEXT}", "swap p 0"])
        with self.assertRaises(BadStep):
            Derivation(first).step(steps[0])
        first, steps = read_paper([f"game {TEXT}", "spell o"])
        derivation = Derivation(first)
        derivation.step(steps[0])
        self.assertEqual(derivation.last.tables, (("t", 4, 5), ("o", 8, 7)))


if __name__ == "__main__":
    unittest.main()
